/- The walk of the exact law of StoreWord. -/
import Derived.Test.YtfmfkfijlfeimaaDoorM8
namespace Go.Proofs.YtfmfkfijlfeimaaDoor
open Go.RowKit

set_option maxHeartbeats 4000000 in
theorem lawstore_any (ev : Value) (hI : ∀ v, StoreG 9 ev v) (a : Option Addr) (cap : Nat) (zs : List Int) (i x : Int) (hi : InR i) (w : World) (hG : Box w 0 ev) (h : Rd w (.slice a zs.length cap) zs) :
    Calls Tryd.prog 6 #[.agg #[.slice a zs.length cap], .int .i64 i, .int .i64 x] w fun e w' => e = .returned (.bool true) ∧ Later w w' := by
  obtain ⟨_, _, _, hl, _⟩ := id h
  obtain ⟨ys, hys, hyl⟩ : ∃ ys, ys = storeL zs i x ∧ ys.length = zs.length := ⟨_, rfl, by simp [storeL_len]⟩
  obtain ⟨okb, hok⟩ : ∃ b, b = okAt zs i := ⟨_, rfl⟩
  by_cases hs : zs.length ≤ 1048576
  · have hs' : (zs.length : Int) ≤ 1048576 := by omega
    go_enter Tryd.func6, Tryd.ntmps6
    go_wp2_with fail
    have A0 := Box.new w (.slice a zs.length cap) 37
    have L1 : Later w (w.alloc (.cells #[.slice a zs.length cap] 37)) := later1 _ _
    have hL0 := L1.size
    refine (sz_any _ zs _ (h.later L1)).mono ?_
    rintro e w1 ⟨rfl, l1⟩
    rw [if_pos hs]
    replace A0 := A0.later l1
    replace L1 := Later.trans L1 l1
    have cA0 := A0.cell
    have tA0 := A0.lt
    clear l1
    go_wp2_with fail
    refine (tomem_any _ zs _ hs (h.later L1)).mono ?_
    rintro e w2 ⟨g2, rfl, o2, l2⟩
    clear cA0
    replace A0 := A0.later l2
    replace L1 := Later.trans L1 l2
    have cA0 := A0.cell
    clear l2
    go_wp2_with fail
    refine (sstore_any _ _ _ zs i x _ (own_rd o2) hs).mono ?_
    rintro e w3 ⟨v3, rfl, q3, l3⟩
    obtain ⟨a3, p3, rfl⟩ := own_slice q3
    rw [← hys] at q3
    rw [← hok]
    have lt3 := own_lt q3
    clear cA0
    replace A0 := A0.later l3
    replace L1 := Later.trans L1 l3
    have cA0 := A0.cell
    have s3 := l3.size
    clear l3 o2
    have tA0a := A0.lt
    go_wp2_with fail
    clear cA0
    have B8 := Box.new w3 (.slice a3 zs.length p3) 25
    have W_ : Later w3 (w3.alloc (.cells #[(.slice a3 zs.length p3)] 25)) := later1 _ _
    replace A0 := A0.later W_
    replace q3 := later_own q3 W_
    replace L1 := Later.trans L1 W_
    clear W_
    have R := h.later L1
    refine (tomem_any _ zs _ hs R).mono ?_
    rintro e w4 ⟨g4, rfl, q4, l4⟩
    have lt4 := own_lt q4
    replace A0 := A0.later l4
    replace B8 := B8.later l4
    replace q3 := later_own q3 l4
    replace L1 := Later.trans L1 l4
    have cA0 := A0.cell
    have cB8 := B8.cell
    have s4 := l4.size
    clear l4 R
    have tB8 := B8.lt
    have tA0b := A0.lt
    go_wp2_with fail
    clear cA0
    clear cB8
    have B10 := Box.new w4 (.slice (some ⟨g4, 0, none⟩) zs.length zs.length) 25
    have W_ : Later w4 (w4.alloc (.cells #[(.slice (some ⟨g4, 0, none⟩) zs.length zs.length)] 25)) := later1 _ _
    replace A0 := A0.later W_
    replace B8 := B8.later W_
    replace q3 := later_own q3 W_
    replace q4 := later_own q4 W_
    replace L1 := Later.trans L1 W_
    clear W_
    refine (hI _ zs i x _ (hG.later L1) (own_rd q4) hs hi).mono ?_
    rintro e w5 ⟨v5, rfl, q5, l5⟩
    obtain ⟨a5, p5, rfl⟩ := own_slice q5
    rw [← hys] at q5
    rw [← hok]
    have lt5 := own_lt q5
    replace A0 := A0.later l5
    replace B8 := B8.later l5
    replace B10 := B10.later l5
    replace q3 := later_own q3 l5
    replace q4 := later_own q4 l5
    replace L1 := Later.trans L1 l5
    have cA0 := A0.cell
    have cB8 := B8.cell
    have cB10 := B10.cell
    have s5 := l5.size
    clear l5
    have tB8a := B8.lt
    have tA0c := A0.lt
    have tB10 := B10.lt
    go_wp2_with fail
    clear cA0
    clear cB8
    clear cB10
    have B11 := Box.new w5 (.slice a5 zs.length p5) 25
    have W_ : Later w5 (w5.alloc (.cells #[(.slice a5 zs.length p5)] 25)) := later1 _ _
    replace A0 := A0.later W_
    replace B8 := B8.later W_
    replace B10 := B10.later W_
    replace q3 := later_own q3 W_
    replace q4 := later_own q4 W_
    replace q5 := later_own q5 W_
    replace L1 := Later.trans L1 W_
    clear W_
    simp only [World.size_alloc] at lt4 lt5 s4 s5
    clear tA0 tA0b tA0c tB8 tB8a tB10 s3
    generalize w3.heap.size = n3 at *
    generalize w4.heap.size = n4 at *
    generalize w5.heap.size = n5 at *
    generalize w2.heap.size = n2 at *
    refine (eqmem_same (zs := ys) (by rw [hyl]; exact q5) (by rw [hyl]; exact q3)).mono ?_
    rintro e w6 ⟨rfl, l6⟩
    replace A0 := A0.later l6
    replace B8 := B8.later l6
    replace B10 := B10.later l6
    replace B11 := B11.later l6
    replace q3 := later_own q3 l6
    replace q4 := later_own q4 l6
    replace q5 := later_own q5 l6
    replace L1 := Later.trans L1 l6
    have cA0 := A0.cell
    have cB8 := B8.cell
    have cB10 := B10.cell
    have cB11 := B11.cell
    clear l6
    have R := h.later L1
    go_wp2_with fail
    go_region_with (first | (go_at_call 16; refine (tomem_any _ zs _ hs (R.later (Later.drew _))).mono ?_; rintro e w7 ⟨g7, rfl, o7, l7⟩; replace A0 := A0.later ((Later.drew _).trans l7); replace B8 := B8.later ((Later.drew _).trans l7); replace B10 := B10.later ((Later.drew _).trans l7); replace B11 := B11.later ((Later.drew _).trans l7); replace q3 := later_own q3 ((Later.drew _).trans l7); replace q4 := later_own q4 ((Later.drew _).trans l7); replace q5 := later_own q5 ((Later.drew _).trans l7); replace L1 := L1.trans ((Later.drew _).trans l7); replace cA0 := A0.cell; replace cB8 := B8.cell; replace cB10 := B10.cell; replace cB11 := B11.cell) | (go_at_call 17; refine (eqmem_same q4 o7).mono ?_; rintro e w8 ⟨rfl, l8⟩; replace A0 := A0.later l8; replace B8 := B8.later l8; replace B10 := B10.later l8; replace B11 := B11.later l8; replace q3 := later_own q3 l8; replace q4 := later_own q4 l8; replace q5 := later_own q5 l8; replace L1 := L1.trans l8; replace cA0 := A0.cell; replace cB8 := B8.cell; replace cB10 := B10.cell; replace cB11 := B11.cell; clear l7 l8 o7))
    all_goals
      clear R
      go_wp2_with fail
      refine (mark_v hs q4).mono ?_
      rintro e w9 ⟨rfl, q4', g9⟩
      replace A0 := A0.grown' g9 (fun g hg => by have := lt4 g hg; omega)
      replace B8 := B8.grown' g9 (fun g hg => by have := lt4 g hg; omega)
      replace B10 := B10.grown' g9 (fun g hg => by have := lt4 g hg; omega)
      replace B11 := B11.grown' g9 (fun g hg => by have := lt4 g hg; omega)
      replace q3 := own_grown q3 g9 (fun g hg e => by have := lt4 g hg; have := lt3 g e; omega)
      replace q5 := own_grown q5 g9 (fun g hg e => by have := lt4 g hg; have := lt5 g e; omega)
      replace L1 := Below.trans L1 (later_grown g9 L1.size (fun g hg => by have := lt4 g hg; omega))
      replace cA0 := A0.cell
      replace cB8 := B8.cell
      replace cB10 := B10.cell
      replace cB11 := B11.cell
      clear q4 q4' g9
      go_wp2_with fail
      refine (eqmem_same (zs := ys) (by rw [hyl]; exact q5) (by rw [hyl]; exact q3)).mono ?_
      rintro e w10 ⟨rfl, l10⟩
      clear cA0
      clear cB8
      clear cB10
      clear cB11
      replace A0 := A0.later l10
      replace B8 := B8.later l10
      replace B10 := B10.later l10
      replace B11 := B11.later l10
      replace q3 := later_own q3 l10
      replace q5 := later_own q5 l10
      replace L1 := Later.trans L1 l10
      have cA0 := A0.cell
      have cB8 := B8.cell
      have cB10 := B10.cell
      have cB11 := B11.cell
      clear l10
      go_wp2_with fail
      refine (mark_v hs q5).mono ?_
      rintro e w11 ⟨rfl, q5', g11⟩
      replace A0 := A0.grown' g11 (fun g hg => by have := lt5 g hg; omega)
      replace B8 := B8.grown' g11 (fun g hg => by have := lt5 g hg; omega)
      replace B10 := B10.grown' g11 (fun g hg => by have := lt5 g hg; omega)
      replace B11 := B11.grown' g11 (fun g hg => by have := lt5 g hg; omega)
      replace q3 := own_grown q3 g11 (fun g hg e => by have := lt5 g hg; have := lt3 g e; omega)
      replace L1 := Below.trans L1 (later_grown g11 L1.size (fun g hg => by have := lt5 g hg; omega))
      replace cA0 := A0.cell
      replace cB8 := B8.cell
      replace cB10 := B10.cell
      replace cB11 := B11.cell
      clear q5 g11
      go_wp2_with fail
      refine (held_v hs q5').mono ?_
      rintro e w12 ⟨rfl, l12⟩
      clear cA0
      clear cB8
      clear cB10
      clear cB11
      replace A0 := A0.later l12
      replace B8 := B8.later l12
      replace B10 := B10.later l12
      replace B11 := B11.later l12
      replace q3 := later_own q3 l12
      replace q5' := later_own q5' l12
      replace L1 := Later.trans L1 l12
      have cA0 := A0.cell
      have cB8 := B8.cell
      have cB10 := B10.cell
      have cB11 := B11.cell
      clear l12
      go_wp2_with fail
      have R := h.later L1
      refine (tomem_any _ zs _ hs R).mono ?_
      rintro e w13 ⟨g13, rfl, q13, l13⟩
      clear cA0
      clear cB8
      clear cB10
      clear cB11
      replace A0 := A0.later l13
      replace B8 := B8.later l13
      replace B10 := B10.later l13
      replace B11 := B11.later l13
      replace q3 := later_own q3 l13
      replace q5' := later_own q5' l13
      replace L1 := Later.trans L1 l13
      have cA0 := A0.cell
      have cB8 := B8.cell
      have cB10 := B10.cell
      have cB11 := B11.cell
      clear l13 R
      go_wp2_with fail
      refine (hI _ zs i x _ (hG.later L1) (own_rd q13) hs hi).mono ?_
      rintro e w14 ⟨v14, rfl, q14, l14⟩
      obtain ⟨a14, p14, rfl⟩ := own_slice q14
      rw [← hys] at q14
      rw [← hok]
      clear cA0
      clear cB8
      clear cB10
      clear cB11
      replace A0 := A0.later l14
      replace B8 := B8.later l14
      replace B10 := B10.later l14
      replace B11 := B11.later l14
      replace q3 := later_own q3 l14
      replace q5' := later_own q5' l14
      replace L1 := Later.trans L1 l14
      have cA0 := A0.cell
      have cB8 := B8.cell
      have cB10 := B10.cell
      have cB11 := B11.cell
      clear l14 q13
      have tA0 := A0.lt
      have tB8 := B8.lt
      have tB10 := B10.lt
      have tB11 := B11.lt
      go_wp2_with fail
      clear cA0
      clear cB8
      clear cB10
      clear cB11
      have B16 := Box.new w14 (.slice a14 zs.length p14) 25
      have W_ : Later w14 (w14.alloc (.cells #[(.slice a14 zs.length p14)] 25)) := later1 _ _
      replace A0 := A0.later W_
      replace B8 := B8.later W_
      replace B10 := B10.later W_
      replace B11 := B11.later W_
      replace q3 := later_own q3 W_
      replace q5' := later_own q5' W_
      replace q14 := later_own q14 W_
      replace L1 := Later.trans L1 W_
      clear W_
      refine (eqmem_same (zs := ys) (by rw [hyl]; exact q14) (by rw [hyl]; exact q3)).mono ?_
      rintro e w15 ⟨rfl, l15⟩
      replace A0 := A0.later l15
      replace B8 := B8.later l15
      replace B10 := B10.later l15
      replace B11 := B11.later l15
      replace B16 := B16.later l15
      replace q3 := later_own q3 l15
      replace q5' := later_own q5' l15
      replace q14 := later_own q14 l15
      replace L1 := Later.trans L1 l15
      have cA0 := A0.cell
      have cB8 := B8.cell
      have cB10 := B10.cell
      have cB11 := B11.cell
      have cB16 := B16.cell
      clear l15
      go_wp2_with fail
      refine (held_v hs q5').mono ?_
      rintro e w16 ⟨rfl, l16⟩
      go_wp2_with fail
      go_ret
      exact ⟨rfl, L1.trans l16⟩
  · have hs' : ¬ (zs.length : Int) ≤ 1048576 := by omega
    go_enter Tryd.func6, Tryd.ntmps6
    go_wp2_with fail
    refine (sz_any _ zs _ (h.later (later1 _ _))).mono ?_
    rintro e w1 ⟨rfl, l1⟩
    rw [if_neg hs]
    go_wp2_with fail
    go_ret
    exact ⟨rfl, (later1 _ _).trans l1⟩

end Go.Proofs.YtfmfkfijlfeimaaDoor
