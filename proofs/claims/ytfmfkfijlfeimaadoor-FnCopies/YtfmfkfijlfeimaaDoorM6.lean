/- The walk of the exact law of LoadWord. -/
import Derived.Test.YtfmfkfijlfeimaaDoorM5
namespace Go.Proofs.YtfmfkfijlfeimaaDoor
open Go.RowKit

set_option maxHeartbeats 1000000 in
theorem lawload_any (ev : Value) (hI : LoadG 10 ev) (a : Option Addr) (cap : Nat) (zs : List Int) (i : Int) (hi : InR i) (w : World) (hG : Box w 0 ev) (h : Rd w (.slice a zs.length cap) zs) :
    Calls Tryd.prog 5 #[.agg #[.slice a zs.length cap], .int .i64 i] w fun e w' => e = .returned (.bool true) ∧ Later w w' := by
  obtain ⟨_, _, _, hl, _⟩ := id h
  by_cases hs : zs.length ≤ 1048576
  · have hs' : (zs.length : Int) ≤ 1048576 := by omega
    go_enter Tryd.func5, Tryd.ntmps5
    go_wp2_with fail
    have A0 := Box.new w (.slice a zs.length cap) 37
    have W0 : Later w (w.alloc (.cells #[.slice a zs.length cap] 37)) := later1 _ _
    have R := h.later W0
    refine (sz_any _ zs _ R).mono ?_
    rintro e w1 ⟨rfl, l1⟩
    rw [if_pos hs]
    replace A0 := A0.later l1
    replace R := R.later l1
    have L1 := W0.trans l1
    have c0 := A0.cell
    generalize w.heap.size = b0 at *
    clear l1 W0
    go_wp2_with fail
    refine (tomem_any _ zs _ hs R).mono ?_
    rintro e w2 ⟨g2, rfl, o2, l2⟩
    replace A0 := A0.later l2
    replace R := R.later l2
    replace L1 := L1.trans l2
    replace c0 := A0.cell
    clear l2
    go_wp2_with fail
    refine (sload_any _ zs i _ (own_rd o2)).mono ?_
    rintro e w3 ⟨rfl, l3⟩
    replace A0 := A0.later l3
    replace R := R.later l3
    replace L1 := L1.trans l3
    replace c0 := A0.cell
    clear l3 o2
    go_wp2_with fail
    refine (tomem_any _ zs _ hs R).mono ?_
    rintro e w4 ⟨g4, rfl, o4, l4⟩
    replace A0 := A0.later l4
    replace R := R.later l4
    replace L1 := L1.trans l4
    replace c0 := A0.cell
    have lt0 := A0.lt
    clear l4
    go_wp2_with fail
    have B8 := Box.new w4 (.slice (some ⟨g4, 0, none⟩) zs.length zs.length) 25
    have W4 : Later w4 (w4.alloc (.cells #[.slice (some ⟨g4, 0, none⟩) zs.length zs.length] 25)) := later1 _ _
    replace A0 := A0.later W4
    replace R := R.later W4
    replace L1 := L1.trans W4
    have q4 := later_own o4 W4
    refine (hI _ zs i _ _ (hG.later L1) q4 hi).mono ?_
    rintro e w5 ⟨rfl, l5⟩
    replace A0 := A0.later l5
    replace B8 := B8.later l5
    replace R := R.later l5
    replace L1 := L1.trans l5
    replace q4 := later_own q4 l5
    replace c0 := A0.cell
    have c8 := B8.cell
    clear l5 W4 o4 lt0
    generalize w4.heap.size = b8 at *
    go_wp2_with fail
    go_region_with (first | (go_at_call 16; refine (tomem_any _ zs _ hs (R.later (Later.drew _))).mono ?_; rintro e w6 ⟨g6, rfl, o6, l6⟩; replace A0 := A0.later ((Later.drew _).trans l6); replace B8 := B8.later ((Later.drew _).trans l6); replace q4 := later_own q4 ((Later.drew _).trans l6); replace L1 := L1.trans ((Later.drew _).trans l6); replace c0 := A0.cell; replace c8 := B8.cell) | (go_at_call 17; refine (eqmem_same q4 o6).mono ?_; rintro e w7 ⟨rfl, l7⟩))
    all_goals
      go_wp2_with fail
      go_ret
      exact ⟨rfl, L1.trans l7⟩
  · have hs' : ¬ (zs.length : Int) ≤ 1048576 := by omega
    go_enter Tryd.func5, Tryd.ntmps5
    go_wp2_with fail
    refine (sz_any _ zs _ (h.later (later1 _ _))).mono ?_
    rintro e w1 ⟨rfl, l1⟩
    rw [if_neg hs]
    go_wp2_with fail
    go_ret
    exact ⟨rfl, (later1 _ _).trans l1⟩

end Go.Proofs.YtfmfkfijlfeimaaDoor
