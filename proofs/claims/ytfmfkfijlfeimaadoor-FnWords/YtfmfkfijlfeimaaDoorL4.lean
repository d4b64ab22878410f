/- The walk of the law FnWords. -/
import Derived.Test.YtfmfkfijlfeimaaDoorJ2
import Derived.Test.YtfmfkfijlfeimaaDoorI1
import Derived.Test.YtfmfkfijlfeimaaDoorE2
namespace Go.Proofs.YtfmfkfijlfeimaaDoor
open Go.RowKit

theorem ild_in (x : Addr) {v : Value} {zs : List Int} {k : Nat} {w : World} {base : Nat} (hG : Box w 0 (errAt x)) (ho : w.ownsRow base 3 1 v zs.length (zs.map (Value.int .i64))) (hk : k < zs.length) (hl : zs.length ≤ 1048576) :
    Calls Tryd.prog 10 #[.agg #[v], .int .i64 (k : Int)] w fun e w' => e = .returned (.tuple #[.int .i64 (zs.getD k 0), .bool true]) ∧ Later w w' := by
  have h := iload_any x v zs k w base hG ho ⟨by omega, by omega⟩
  rcases okAt_cases zs k with ⟨ho, _, _⟩ | ⟨_, _, e1, e2⟩
  · omega
  · rw [e1, e2, Int.toNat_natCast] at h
    exact h
theorem ild_out (x : Addr) {v : Value} {zs : List Int} {i : Int} {w : World} {base : Nat} (hG : Box w 0 (errAt x)) (ho : w.ownsRow base 3 1 v zs.length (zs.map (Value.int .i64))) (hi : InR i) (h : i < 0 ∨ (zs.length : Int) ≤ i) :
    Calls Tryd.prog 10 #[.agg #[v], .int .i64 i] w fun e w' => e = .returned (.tuple #[.int .i64 0, .bool false]) ∧ Later w w' := by
  have h' := iload_any x v zs i w base hG ho hi
  rcases okAt_cases zs i with ⟨_, e1, e2⟩ | ⟨_, _, _, _⟩
  · rw [e1, e2] at h'
    exact h'
  · omega
theorem new_two (w : World) : Calls Tryd.prog 11 #[.int .i64 2] w fun e w' => ∃ a cap, e = .returned (.tuple #[.agg #[.slice a 2 cap], .bool true]) ∧ Later w w' := by
  refine (inew_any 2 w).mono ?_
  rintro e w' ⟨v, rfl, ho, hw⟩
  obtain ⟨a, cap, rfl⟩ := own_slice ho
  exact ⟨a, cap, rfl, hw⟩
theorem getD_set_same {zs : List Int} {k : Nat} {y : Int} (h : k < zs.length) : (zs.set k y).getD k 0 = y := by
  rw [List.getD_eq_getElem?_getD, List.getElem?_set_self h]; rfl
theorem getD_set_other {zs : List Int} {k j : Nat} {y : Int} (h : j ≠ k) : (zs.set j y).getD k 0 = zs.getD k 0 := by
  rw [List.getD_eq_getElem?_getD, List.getElem?_set_ne h, List.getD_eq_getElem?_getD]

set_option maxHeartbeats 4000000 in
theorem lawwords_any (x : Addr) (a : Option Addr) (len cap : Nat) (w : World) (hb : Bytes w a len) (hG : Box w 0 (errAt x)) :
    Calls Tryd.prog 3 #[.slice a len cap] w fun e w' => e = .returned (.bool true) ∧ Later w w' := by
  go_enter Tryd.func3, Tryd.ntmps3
  go_wp2_with fail
  refine (drawstore_any cap hb).mono ?_
  rintro e w1 ⟨v, zs, p, y, rfl, hzl, hp, hy, o1, L1⟩
  obtain ⟨av, pv, rfl⟩ := own_slice o1
  have B3 := Box.new w1 (.slice av zs.length pv) 25
  have W_ : Later w1 (w1.alloc (.cells #[(.slice av zs.length pv)] 25)) := later1 _ _
  have om := later_own o1 W_
  replace L1 := L1.trans W_
  have G1 := hG.later L1
  have hS := istore_any x (.slice av zs.length pv) zs p y _ G1 (own_rd om) (by omega) hp
  clear W_ o1 hb
  go_wp2_with fail
  clear G1
  generalize w1.alloc (.cells #[(.slice av zs.length pv)] 25) = W1 at *
  generalize w1.heap.size = b3 at *
  obtain ⟨ys, hys⟩ : ∃ ys, ys = storeL zs p y := ⟨_, rfl⟩
  have hyl : ys.length = zs.length := by rw [hys]; exact storeL_len _ _ _
  rw [← hys] at hS
  have hcase : (okAt zs p = false ∧ ys = zs ∧ p < 0) ∨ (okAt zs p = false ∧ ys = zs ∧ 0 ≤ p ∧ (zs.length : Int) ≤ p) ∨ (okAt zs p = true ∧ ys = zs.set p.toNat y ∧ 0 ≤ p ∧ p < (zs.length : Int)) := by
    unfold storeL at hys
    rcases okAt_cases zs p with ⟨ho, e1, _⟩ | ⟨h0, h1, e1, _⟩
    · rw [e1] at hys
      rcases ho with h | h
      · exact .inl ⟨e1, hys, h⟩
      · exact .inr (.inl ⟨e1, hys, by omega, h⟩)
    · rw [e1] at hys
      exact .inr (.inr ⟨e1, hys, h0, h1⟩)
  clear hys
  rcases hcase with ⟨e1, hys, c1⟩ | ⟨e1, hys, c1, c2⟩ | ⟨e1, hys, c1, c2⟩
  · rw [e1] at hS
    refine hS.mono ?_
    rintro e w2 ⟨v2, rfl, o2, l2⟩
    obtain ⟨ax, px, rfl⟩ := own_slice o2
    replace B3 := B3.later l2
    replace om := later_own om l2
    replace L1 := L1.trans l2
    have c3 := B3.cell
    have t3 := B3.lt
    have n3 : ¬ b3 = w2.heap.size := by omega
    have n3' : ¬ w2.heap.size = b3 := by omega
    clear l2 e1 hS
    go_wp2_with fail
    have B6 := Box.new w2 (.slice ax zs.length px) 25
    have W_ : Later w2 (w2.alloc (.cells #[(.slice ax zs.length px)] 25)) := later1 _ _
    replace B3 := B3.later W_
    replace om := later_own om W_
    replace o2 := later_own o2 W_
    replace L1 := L1.trans W_
    clear W_ c3 n3 n3' t3
    generalize w2.alloc (.cells #[(.slice ax zs.length px)] 25) = W2 at *
    generalize w2.heap.size = b6 at *
    go_loopw [8] (fun i wr => ∃ k : Nat, i = .int .i64 (k : Int) ∧ k ≤ zs.length ∧ Later W2 wr) (fun i _ => zs.length - (intOf i).toNat)
    case atStart => exact ⟨0, rfl, Nat.zero_le _, Later.refl _⟩
    case round =>
      obtain ⟨k, rfl, hk, lr⟩ := hrel
      have c3 := (B3.later lr).cell
      have c6 := (B6.later lr).cell
      by_cases hlt : k < zs.length
      · have i1 : (k : Int) < (zs.length : Int) := by omega
        have hL : Calls Tryd.prog 10 #[.agg #[.slice ax zs.length px], .int .i64 (k : Int)] wr fun e w' => e = .returned (.tuple #[.int .i64 (ys.getD k 0), .bool true]) ∧ Later wr w' := ild_in x (hG.later (L1.trans lr)) (by rw [hyl]; exact later_own o2 lr) (by omega) (by omega)
        · rw [hys] at hL
          go_wp2_with fail
          refine hL.mono ?_
          rintro e w3 ⟨rfl, l3⟩
          have lr3 := lr.trans l3
          replace c3 := (B3.later lr3).cell
          obtain ⟨_, _, he, _, hc⟩ := own_rd (later_own om lr3)
          cases he
          obtain ⟨g, off, rfl, _, hv⟩ := hc k hlt
          generalize zs.getD k 0 = z at *
          clear hc hL l3 lr om B3 B6 o2
          go_wp2_with fail
          go_roundw
          case rel => exact ⟨k + 1, by go_num, by omega, lr3⟩
          case measure => simp [intOf]; omega
      · have hlt' : decide ((k : Int) < (zs.length : Int)) = false := decide_eq_false (by omega)
        have hL1 := fun (i : Int) (h : i = -1) => ild_out x (i := i) (hG.later (L1.trans lr)) (later_own om lr) (by rw [h]; exact ⟨by decide, by decide⟩) (.inl (by rw [h]; decide))
        have hge : ¬ (k : Int) < (zs.length : Int) := by omega
        go_wp2_with fail
        refine (hL1 _ rfl).mono ?_
        rintro e w3 ⟨rfl, l3⟩
        have lr3 := lr.trans l3
        replace c3 := (B3.later lr3).cell
        have hL2 := ild_out x (i := (zs.length : Int)) (hG.later (L1.trans lr3)) (later_own om lr3) ⟨by omega, by omega⟩ (.inr (Int.le_refl _))
        clear hL1 l3 lr c6
        go_wp2_with fail
        refine hL2.mono ?_
        rintro e w4 ⟨rfl, l4⟩
        have lr4 := lr3.trans l4
        clear hL2 l4 lr3 c3
        go_wp2_with fail
        refine (new_two _).mono ?_
        rintro e w5 ⟨a5, p5, rfl, l5⟩
        have L5 := L1.trans (lr4.trans l5)
        clear lr4 l5
        go_wp2_with fail
        go_ret
        exact ⟨rfl, L5.trans (later1 _ _)⟩
  · rw [e1] at hS
    refine hS.mono ?_
    rintro e w2 ⟨v2, rfl, o2, l2⟩
    obtain ⟨ax, px, rfl⟩ := own_slice o2
    replace B3 := B3.later l2
    replace om := later_own om l2
    replace L1 := L1.trans l2
    have c3 := B3.cell
    have t3 := B3.lt
    have n3 : ¬ b3 = w2.heap.size := by omega
    have n3' : ¬ w2.heap.size = b3 := by omega
    clear l2 e1 hS
    go_wp2_with fail
    have B6 := Box.new w2 (.slice ax zs.length px) 25
    have W_ : Later w2 (w2.alloc (.cells #[(.slice ax zs.length px)] 25)) := later1 _ _
    replace B3 := B3.later W_
    replace om := later_own om W_
    replace o2 := later_own o2 W_
    replace L1 := L1.trans W_
    clear W_ c3 n3 n3' t3
    generalize w2.alloc (.cells #[(.slice ax zs.length px)] 25) = W2 at *
    generalize w2.heap.size = b6 at *
    go_loopw [8] (fun i wr => ∃ k : Nat, i = .int .i64 (k : Int) ∧ k ≤ zs.length ∧ Later W2 wr) (fun i _ => zs.length - (intOf i).toNat)
    case atStart => exact ⟨0, rfl, Nat.zero_le _, Later.refl _⟩
    case round =>
      obtain ⟨k, rfl, hk, lr⟩ := hrel
      have c3 := (B3.later lr).cell
      have c6 := (B6.later lr).cell
      by_cases hlt : k < zs.length
      · have i1 : (k : Int) < (zs.length : Int) := by omega
        have hL : Calls Tryd.prog 10 #[.agg #[.slice ax zs.length px], .int .i64 (k : Int)] wr fun e w' => e = .returned (.tuple #[.int .i64 (ys.getD k 0), .bool true]) ∧ Later wr w' := ild_in x (hG.later (L1.trans lr)) (by rw [hyl]; exact later_own o2 lr) (by omega) (by omega)
        · rw [hys] at hL
          go_wp2_with fail
          refine hL.mono ?_
          rintro e w3 ⟨rfl, l3⟩
          have lr3 := lr.trans l3
          replace c3 := (B3.later lr3).cell
          obtain ⟨_, _, he, _, hc⟩ := own_rd (later_own om lr3)
          cases he
          obtain ⟨g, off, rfl, _, hv⟩ := hc k hlt
          generalize zs.getD k 0 = z at *
          clear hc hL l3 lr om B3 B6 o2
          go_wp2_with fail
          go_roundw
          case rel => exact ⟨k + 1, by go_num, by omega, lr3⟩
          case measure => simp [intOf]; omega
      · have hlt' : decide ((k : Int) < (zs.length : Int)) = false := decide_eq_false (by omega)
        have hL1 := fun (i : Int) (h : i = -1) => ild_out x (i := i) (hG.later (L1.trans lr)) (later_own om lr) (by rw [h]; exact ⟨by decide, by decide⟩) (.inl (by rw [h]; decide))
        have hge : ¬ (k : Int) < (zs.length : Int) := by omega
        go_wp2_with fail
        refine (hL1 _ rfl).mono ?_
        rintro e w3 ⟨rfl, l3⟩
        have lr3 := lr.trans l3
        replace c3 := (B3.later lr3).cell
        have hL2 := ild_out x (i := (zs.length : Int)) (hG.later (L1.trans lr3)) (later_own om lr3) ⟨by omega, by omega⟩ (.inr (Int.le_refl _))
        clear hL1 l3 lr c6
        go_wp2_with fail
        refine hL2.mono ?_
        rintro e w4 ⟨rfl, l4⟩
        have lr4 := lr3.trans l4
        clear hL2 l4 lr3 c3
        go_wp2_with fail
        refine (new_two _).mono ?_
        rintro e w5 ⟨a5, p5, rfl, l5⟩
        have L5 := L1.trans (lr4.trans l5)
        clear lr4 l5
        go_wp2_with fail
        go_ret
        exact ⟨rfl, L5.trans (later1 _ _)⟩
  · rw [e1] at hS
    refine hS.mono ?_
    rintro e w2 ⟨v2, rfl, o2, l2⟩
    obtain ⟨ax, px, rfl⟩ := own_slice o2
    replace B3 := B3.later l2
    replace om := later_own om l2
    replace L1 := L1.trans l2
    have c3 := B3.cell
    have t3 := B3.lt
    have n3 : ¬ b3 = w2.heap.size := by omega
    have n3' : ¬ w2.heap.size = b3 := by omega
    clear l2 e1 hS
    go_wp2_with fail
    have B6 := Box.new w2 (.slice ax zs.length px) 25
    have W_ : Later w2 (w2.alloc (.cells #[(.slice ax zs.length px)] 25)) := later1 _ _
    replace B3 := B3.later W_
    replace om := later_own om W_
    replace o2 := later_own o2 W_
    replace L1 := L1.trans W_
    clear W_ c3 n3 n3' t3
    generalize w2.alloc (.cells #[(.slice ax zs.length px)] 25) = W2 at *
    generalize w2.heap.size = b6 at *
    go_loopw [8] (fun i wr => ∃ k : Nat, i = .int .i64 (k : Int) ∧ k ≤ zs.length ∧ Later W2 wr) (fun i _ => zs.length - (intOf i).toNat)
    case atStart => exact ⟨0, rfl, Nat.zero_le _, Later.refl _⟩
    case round =>
      obtain ⟨k, rfl, hk, lr⟩ := hrel
      have c3 := (B3.later lr).cell
      have c6 := (B6.later lr).cell
      by_cases hlt : k < zs.length
      · have i1 : (k : Int) < (zs.length : Int) := by omega
        have hL : Calls Tryd.prog 10 #[.agg #[.slice ax zs.length px], .int .i64 (k : Int)] wr fun e w' => e = .returned (.tuple #[.int .i64 (ys.getD k 0), .bool true]) ∧ Later wr w' := ild_in x (hG.later (L1.trans lr)) (by rw [hyl]; exact later_own o2 lr) (by omega) (by omega)
        by_cases hkp : (k : Int) = p
        · subst hkp
          have e0 : ys.getD k 0 = y := by rw [hys, Int.toNat_natCast]; exact getD_set_same hlt
          rw [e0] at hL
          go_wp2_with fail
          refine hL.mono ?_
          rintro e w3 ⟨rfl, l3⟩
          have lr3 := lr.trans l3
          replace c3 := (B3.later lr3).cell
          obtain ⟨_, _, he, _, hc⟩ := own_rd (later_own om lr3)
          cases he
          obtain ⟨g, off, rfl, _, hv⟩ := hc k hlt
          generalize zs.getD k 0 = z at *
          clear hc hL l3 lr om B3 B6 o2
          go_wp2_with fail
          go_roundw
          case rel => exact ⟨k + 1, by go_num, by omega, lr3⟩
          case measure => simp [intOf]; omega
        · have e0 : ys.getD k 0 = zs.getD k 0 := by rw [hys]; exact getD_set_other (by omega)
          rw [e0] at hL
          have hkp' : ((k : Int) == p) = false := by simpa using hkp
          go_wp2_with fail
          refine hL.mono ?_
          rintro e w3 ⟨rfl, l3⟩
          have lr3 := lr.trans l3
          replace c3 := (B3.later lr3).cell
          obtain ⟨_, _, he, _, hc⟩ := own_rd (later_own om lr3)
          cases he
          obtain ⟨g, off, rfl, _, hv⟩ := hc k hlt
          generalize zs.getD k 0 = z at *
          clear hc hL l3 lr om B3 B6 o2
          go_wp2_with fail
          go_roundw
          case rel => exact ⟨k + 1, by go_num, by omega, lr3⟩
          case measure => simp [intOf]; omega
      · have hlt' : decide ((k : Int) < (zs.length : Int)) = false := decide_eq_false (by omega)
        have hL1 := fun (i : Int) (h : i = -1) => ild_out x (i := i) (hG.later (L1.trans lr)) (later_own om lr) (by rw [h]; exact ⟨by decide, by decide⟩) (.inl (by rw [h]; decide))
        have hge : ¬ (k : Int) < (zs.length : Int) := by omega
        go_wp2_with fail
        refine (hL1 _ rfl).mono ?_
        rintro e w3 ⟨rfl, l3⟩
        have lr3 := lr.trans l3
        replace c3 := (B3.later lr3).cell
        have hL2 := ild_out x (i := (zs.length : Int)) (hG.later (L1.trans lr3)) (later_own om lr3) ⟨by omega, by omega⟩ (.inr (Int.le_refl _))
        clear hL1 l3 lr c6
        go_wp2_with fail
        refine hL2.mono ?_
        rintro e w4 ⟨rfl, l4⟩
        have lr4 := lr3.trans l4
        clear hL2 l4 lr3 c3
        go_wp2_with fail
        refine (new_two _).mono ?_
        rintro e w5 ⟨a5, p5, rfl, l5⟩
        have L5 := L1.trans (lr4.trans l5)
        clear lr4 l5
        go_wp2_with fail
        go_ret
        exact ⟨rfl, L5.trans (later1 _ _)⟩

end Go.Proofs.YtfmfkfijlfeimaaDoor
