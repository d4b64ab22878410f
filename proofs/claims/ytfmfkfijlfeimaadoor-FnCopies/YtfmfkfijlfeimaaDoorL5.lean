/- The walk of the law FnCopies. -/
import Derived.Test.YtfmfkfijlfeimaaDoorJ3
import Derived.Test.YtfmfkfijlfeimaaDoorE3
namespace Go.Proofs.YtfmfkfijlfeimaaDoor
open Go.RowKit

theorem cp_getD {zs : List Int} {f t n k : Nat} (hf : f + n ≤ zs.length) (ht : t + n ≤ zs.length) : (cp zs f t n).getD k 0 = if t ≤ k ∧ k < t + n then zs.getD (f + (k - t)) 0 else zs.getD k 0 := by
  have h1 : (zs.take t).length = t := by simp; omega
  have h2 : ((zs.drop f).take n).length = n := by simp; omega
  unfold cp
  simp only [List.getD_eq_getElem?_getD]
  by_cases a : k < t
  · rw [if_neg (by omega), List.getElem?_append_left (by omega), List.getElem?_take_of_lt a]
  · rw [List.getElem?_append_right (by omega), h1]
    by_cases b : k < t + n
    · rw [if_pos ⟨by omega, b⟩, List.getElem?_append_left (by omega), List.getElem?_take_of_lt (by omega), List.getElem?_drop]
    · rw [if_neg (by omega), List.getElem?_append_right (by omega), h2, List.getElem?_drop]
      congr 2
      omega
theorem own_get {w : World} {base : Nat} {v : Value} {zs : List Int} {n : Nat} (h : w.ownsRow base 3 1 v n (zs.map (Value.int .i64))) {k : Nat} (hk : k < n) : ∃ g cap, v = .slice (some ⟨g, 0, none⟩) n cap ∧ g < w.heap.size ∧ ∀ j, j < n → w.cell? ⟨g, j, none⟩ = some (.int .i64 (zs.getD j 0)) := by
  rcases own_cases h with ⟨_, h0, _⟩ | ⟨g, cap, rfl, _, hg, _⟩
  · omega
  · refine ⟨g, cap, rfl, hg, fun j hj => ?_⟩
    have hl : zs.length = n := by have := h.1; simpa using this
    rw [h.cellAt j (by omega), List.getElem?_map, List.getElem?_eq_getElem (by omega), List.getD_eq_getElem?_getD, List.getElem?_eq_getElem (by omega)]
    rfl
theorem copy_two (x : Addr) (g : Nat) (w : World) (hG : Box w 0 (errAt x)) (hg : g < w.heap.size) (h0 : w.cell? ⟨g, 0, none⟩ = some (.int .i64 1)) (h1 : w.cell? ⟨g, 1, none⟩ = some (.int .i64 2)) :
    Calls Tryd.prog 13 #[.agg #[.slice (some ⟨g, 0, none⟩) 2 2], .int .i64 0, .int .i64 1, .int .i64 1] w fun e w' => ∃ h cap, e = .returned (.tuple #[.agg #[.slice (some ⟨h, 0, none⟩) 2 cap], .bool true]) ∧ w'.cell? ⟨h, 1, none⟩ = some (.int .i64 1) ∧ h < w'.heap.size ∧ Later w w' := by
  have hR : Rd w (.slice (some ⟨g, 0, none⟩) 2 2) [1, 2] := by
    refine ⟨_, 2, rfl, by decide, fun j hj => ⟨g, 0, rfl, hg, ?_⟩⟩
    match j, hj with
    | 0, _ => exact h0
    | 1, _ => exact h1
  refine (icopy_any x _ [1, 2] 0 1 1 w hG hR (by decide) ⟨by decide, by decide⟩ ⟨by decide, by decide⟩ ⟨by decide, by decide⟩).mono ?_
  rintro e w' ⟨v', rfl, ho, hl⟩
  have e1 : okC [1, 2] 0 1 1 = true := by decide
  have e2 : copyL [1, 2] 0 1 1 = [1, 1] := by decide
  rw [e2] at ho
  rw [e1]
  obtain ⟨h, cap, rfl, hh, hc⟩ := own_get ho (k := 1) (by decide)
  exact ⟨h, cap, rfl, hc 1 (by decide), hh, hl⟩

set_option maxHeartbeats 4000000 in
theorem lawcopies_any (x : Addr) (a : Option Addr) (len cap : Nat) (w : World) (hb : Bytes w a len) (hG : Box w 0 (errAt x)) :
    Calls Tryd.prog 4 #[.slice a len cap] w fun e w' => e = .returned (.bool true) ∧ Later w w' := by
  have hbu := build1
  go_enter Tryd.func4, Tryd.ntmps4
  go_wp2_with fail
  refine (drawcopy_any cap hb).mono ?_
  rintro e w1 ⟨v, zs, p, q, r, rfl, hzl, hp, hq, hr, o1, L1⟩
  obtain ⟨av, pv, rfl⟩ := own_slice o1
  have B3 := Box.new w1 (.slice av zs.length pv) 25
  have W_ : Later w1 (w1.alloc (.cells #[(.slice av zs.length pv)] 25)) := later1 _ _
  have om := later_own o1 W_
  replace L1 := L1.trans W_
  have hS := icopy_any x (.slice av zs.length pv) zs p q r _ (hG.later L1) (own_rd om) (by omega) hp hq hr
  clear W_ o1 hb
  go_wp2_with fail
  generalize w1.alloc (.cells #[(.slice av zs.length pv)] 25) = W1 at *
  generalize w1.heap.size = b3 at *
  obtain ⟨ys, hys⟩ : ∃ ys, ys = copyL zs p q r := ⟨_, rfl⟩
  rw [← hys] at hS
  have hcase : (okC zs p q r = false ∧ ys = zs) ∨ (okC zs p q r = true ∧ ∃ f t n : Nat, p = (f : Int) ∧ q = (t : Int) ∧ r = (n : Int) ∧ f + n ≤ zs.length ∧ t + n ≤ zs.length ∧ ys = cp zs f t n) := by
    unfold copyL at hys
    cases ho : okC zs p q r
    · rw [ho] at hys
      exact .inl ⟨rfl, hys⟩
    · rw [ho] at hys
      unfold okC at ho
      rw [Bool.and_eq_true] at ho
      have h1 := rOk_true ho.1
      have h2 := rOk_true ho.2
      exact .inr ⟨rfl, p.toNat, q.toNat, r.toNat, by omega, by omega, by omega, by omega, by omega, hys⟩
  clear hys
  rcases hcase with ⟨e1, hys⟩ | ⟨e1, f, t, n, rfl, rfl, rfl, hf, ht, hys⟩
  · rw [e1] at hS
    refine hS.mono ?_
    rintro e w2 ⟨v2, rfl, o2, l2⟩
    obtain ⟨ax, px, rfl⟩ := own_slice o2
    replace B3 := B3.later l2
    replace om := later_own om l2
    replace L1 := L1.trans l2
    have c3 := B3.cell
    have t3 := B3.lt
    have n3 : ¬ b3 = w2.heap.size := by omega
    have n3' : ¬ w2.heap.size = b3 := by omega
    clear l2 e1 hS
    go_wp2_with fail
    have B6 := Box.new w2 (.slice ax zs.length px) 25
    have W_ : Later w2 (w2.alloc (.cells #[(.slice ax zs.length px)] 25)) := later1 _ _
    replace B3 := B3.later W_
    replace om := later_own om W_
    replace o2 := later_own o2 W_
    replace L1 := L1.trans W_
    have G2 := hG.later L1
    clear W_ c3 n3 n3' t3
    generalize w2.alloc (.cells #[(.slice ax zs.length px)] 25) = W2 at *
    generalize w2.heap.size = b6 at *
    have c3 := B3.cell
    have c6 := B6.cell
    go_loop [9] (fun i => ∃ k : Nat, i = .int .i64 (k : Int) ∧ k ≤ zs.length) (fun i => zs.length - (intOf i).toNat)
    case atStart => exact ⟨0, rfl, Nat.zero_le _⟩
    case round =>
      obtain ⟨k, rfl, hk⟩ := hrel
      by_cases hlt : k < zs.length
      · have i1 : (k : Int) < (zs.length : Int) := by omega
        obtain ⟨gm, pm, em, _, hcm⟩ := own_get om hlt
        obtain ⟨gx, qx, ex, _, hcx⟩ := own_get o2 hlt
        cases em
        cases ex
        have v1 := hcm k hlt
        have v2 := hcx k hlt
        · rw [hys] at v2
          generalize zs.getD k 0 = z at *
          clear hcm hcx om o2
          go_wp2_with fail
          go_round
          case rel => exact ⟨k + 1, by go_num, by omega⟩
          case measure => simp [intOf]; omega
      · have hlt' : decide ((k : Int) < (zs.length : Int)) = false := decide_eq_false (by omega)
        have hge : ¬ (k : Int) < (zs.length : Int) := by omega
        go_wp2_with fail
        refine (copy_two x W2.heap.size _ (G2.later (later1 _ _)) (by simp) (by simp) (by simp)).mono ?_
        rintro e w5 ⟨h5, p5, rfl, hc5, hh5, l5⟩
        have L5 := L1.trans ((later1 _ _).trans l5)
        clear l5
        go_wp2_with fail
        go_ret
        exact ⟨rfl, L5.trans (later1 _ _)⟩
  · rw [e1] at hS
    refine hS.mono ?_
    rintro e w2 ⟨v2, rfl, o2, l2⟩
    obtain ⟨ax, px, rfl⟩ := own_slice o2
    replace B3 := B3.later l2
    replace om := later_own om l2
    replace L1 := L1.trans l2
    have c3 := B3.cell
    have t3 := B3.lt
    have n3 : ¬ b3 = w2.heap.size := by omega
    have n3' : ¬ w2.heap.size = b3 := by omega
    clear l2 e1 hS
    go_wp2_with fail
    have B6 := Box.new w2 (.slice ax zs.length px) 25
    have W_ : Later w2 (w2.alloc (.cells #[(.slice ax zs.length px)] 25)) := later1 _ _
    replace B3 := B3.later W_
    replace om := later_own om W_
    replace o2 := later_own o2 W_
    replace L1 := L1.trans W_
    have G2 := hG.later L1
    clear W_ c3 n3 n3' t3
    generalize w2.alloc (.cells #[(.slice ax zs.length px)] 25) = W2 at *
    generalize w2.heap.size = b6 at *
    have c3 := B3.cell
    have c6 := B6.cell
    go_loop [9] (fun i => ∃ k : Nat, i = .int .i64 (k : Int) ∧ k ≤ zs.length) (fun i => zs.length - (intOf i).toNat)
    case atStart => exact ⟨0, rfl, Nat.zero_le _⟩
    case round =>
      obtain ⟨k, rfl, hk⟩ := hrel
      by_cases hlt : k < zs.length
      · have i1 : (k : Int) < (zs.length : Int) := by omega
        obtain ⟨gm, pm, em, _, hcm⟩ := own_get om hlt
        obtain ⟨gx, qx, ex, _, hcx⟩ := own_get o2 hlt
        cases em
        cases ex
        have v1 := hcm k hlt
        have v2 := hcx k hlt
        rw [hys, cp_getD hf ht] at v2
        have hn20 : (n : Int) ≤ 20 := by omega
        have ht20 : (t : Int) ≤ 20 := by omega
        have hf20 : (f : Int) ≤ 20 := by omega
        by_cases ha : t ≤ k
        · have a1 : (t : Int) ≤ (k : Int) := by omega
          have r1 : (k : Int) - (t : Int) ≤ 20 := by omega
          have r2 : -20 ≤ (k : Int) - (t : Int) := by omega
          by_cases hbn : k < t + n
          · have b1 : (k : Int) - (t : Int) < (n : Int) := by omega
            rw [if_pos ⟨ha, hbn⟩] at v2
            obtain ⟨j, hj⟩ : ∃ j : Nat, f + (k - t) = j := ⟨_, rfl⟩
            have v3 := hcm j (by omega)
            rw [hj] at v2
            have hjj : (f : Int) + (k : Int) - (t : Int) = (j : Int) := by omega
            have r3 : (f : Int) + (k : Int) ≤ 40 := by omega
            have r4 : 0 ≤ (f : Int) + (k : Int) := by omega
            have hjl : (j : Int) < (zs.length : Int) := by omega
            generalize zs.getD j 0 = z at *
            generalize zs.getD k 0 = z' at *
            clear hcm hcx om o2 hj
            go_wp2_with fail
            go_round
            case rel => exact ⟨k + 1, by go_num, by omega⟩
            case measure => simp [intOf]; omega
          · have b1 : ¬ (k : Int) - (t : Int) < (n : Int) := by omega
            rw [if_neg (by omega)] at v2
            generalize zs.getD k 0 = z at *
            clear hcm hcx om o2
            go_wp2_with fail
            go_round
            case rel => exact ⟨k + 1, by go_num, by omega⟩
            case measure => simp [intOf]; omega
        · have a1 : ¬ (t : Int) ≤ (k : Int) := by omega
          rw [if_neg (by omega)] at v2
          generalize zs.getD k 0 = z at *
          clear hcm hcx om o2
          go_wp2_with fail
          go_round
          case rel => exact ⟨k + 1, by go_num, by omega⟩
          case measure => simp [intOf]; omega
      · have hlt' : decide ((k : Int) < (zs.length : Int)) = false := decide_eq_false (by omega)
        have hge : ¬ (k : Int) < (zs.length : Int) := by omega
        go_wp2_with fail
        refine (copy_two x W2.heap.size _ (G2.later (later1 _ _)) (by simp) (by simp) (by simp)).mono ?_
        rintro e w5 ⟨h5, p5, rfl, hc5, hh5, l5⟩
        have L5 := L1.trans ((later1 _ _).trans l5)
        clear l5
        go_wp2_with fail
        go_ret
        exact ⟨rfl, L5.trans (later1 _ _)⟩

end Go.Proofs.YtfmfkfijlfeimaaDoor
