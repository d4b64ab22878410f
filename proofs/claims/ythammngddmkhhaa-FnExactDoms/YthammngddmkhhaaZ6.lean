/- The order turned round; where two meet. -/
import Derived.Test.YthammngddmkhhaaZ5
namespace Go.Proofs.Ythammngddmkhhaa
open Go.RowKit

theorem list_ext_getD {xs ys : List Nat} (hl : xs.length = ys.length) (h : ∀ j, j < xs.length → xs.getD j 0 = ys.getD j 0) : xs = ys := by
  apply List.ext_getElem hl
  intro j h1 h2
  have := h j h1
  rwa [List.getD_eq_getElem?_getD, List.getD_eq_getElem?_getD, List.getElem?_eq_getElem h1, List.getElem?_eq_getElem h2] at this
theorem getD_reverse (xs : List Nat) (j : Nat) (hj : j < xs.length) : xs.reverse.getD j 0 = xs.getD (xs.length - 1 - j) 0 := by
  rw [List.getD_eq_getElem?_getD, List.getD_eq_getElem?_getD, List.getElem?_reverse hj]
/-- A list with its ends turned round, as far as k. -/
def Turned (od cur : List Nat) (k : Nat) : Prop := cur.length = od.length ∧ ∀ t, t < od.length → cur.getD t 0 = if t < k ∨ od.length ≤ t + k then od.getD (od.length - 1 - t) 0 else od.getD t 0
theorem Turned.start (od : List Nat) : Turned od od 0 := ⟨rfl, fun t ht => by rw [if_neg (by omega)]⟩
theorem Turned.step {od cur : List Nat} {k j : Nat} (h : Turned od cur k) (hj : j + k + 1 = od.length) (hk : k < j) : Turned od ((cur.set k (cur.getD j 0)).set j (cur.getD k 0)) (k + 1) := by
  obtain ⟨hl, hc⟩ := h
  refine ⟨by simp [hl], fun t ht => ?_⟩
  rw [getD_set _ _ _ _ _ (by simp; omega), getD_set _ _ _ _ _ (by omega)]
  by_cases q : t = j
  · subst q
    rw [if_pos rfl, hc k (by omega), if_neg (by omega), if_pos (by omega), show od.length - 1 - t = k by omega]
  · rw [if_neg q]
    by_cases r : t = k
    · subst r
      rw [if_pos rfl, hc j (by omega), if_neg (by omega), if_pos (by omega), show od.length - 1 - t = j by omega]
    · rw [if_neg r, hc t ht]
      by_cases u : t < k ∨ od.length ≤ t + k
      · rw [if_pos u, if_pos (by omega)]
      · rw [if_neg u, if_neg (by omega)]
theorem Turned.done {od cur : List Nat} {k : Nat} (h : Turned od cur k) (hk : od.length ≤ k + k + 1) : cur = od.reverse := by
  obtain ⟨hl, hc⟩ := h
  refine list_ext_getD (by rw [hl, List.length_reverse]) (fun t ht => ?_)
  rw [hl] at ht
  rw [hc t ht, getD_reverse _ _ ht]
  by_cases u : t < k ∨ od.length ≤ t + k
  · rw [if_pos u]
  · rw [if_neg u, show od.length - 1 - t = t by omega]
theorem map_set_vn (od : List Nat) (j v : Nat) : (od.map vn).set j (.int .i64 (v : Int)) = (od.set j v).map vn := by rw [List.map_set]; rfl
section
variable {W w : World} {B K gs gr gn : Nat} {bv : Value} {n : Nat} {sn : List Bool} {od rk : List Nat} {ne : List Int} {g m c : Nat}
theorem Wf.setOd (h : Wf W w B K gs gr gn bv (.slice (some ⟨g, 0, none⟩) m c) n sn od rk ne) (j : Nat) (v : Nat) : Wf W (w.setCell ⟨g, j, none⟩ (.int .i64 (v : Int))) B K gs gr gn bv (.slice (some ⟨g, 0, none⟩) m c) n sn (od.set j v) rk ne := by
  obtain ⟨t1, t2, t3, t4⟩ := h.top
  have hB := (h.own.lt g rfl).1
  have hb := h.base.1
  have hm : m = od.length := by
    rcases h.own.2 with ⟨q, _⟩ | ⟨_, _, _, q, _⟩
    · cases q
    · cases q; rfl
  subst hm
  have ho := (h.own.stored j (.int .i64 (v : Int))).1
  rw [map_set_vn] at ho
  exact ⟨Later.setAt h.lat (by omega) _ _, h.box.other (by omega) _, h.xs.other (by omega) _, h.xr.other (by omega) _, h.xn.other (by omega) _, by rw [List.length_set]; exact ho, h.sl, h.rl, h.nl, h.base, h.top, h.ap, by rw [World.size_setCell]; exact h.bs⟩
theorem Wf.odCell (h : Wf W w B K gs gr gn bv (.slice (some ⟨g, 0, none⟩) m c) n sn od rk ne) (j : Nat) (hj : j < od.length) : w.cell? ⟨g, j, none⟩ = some (.int .i64 ((od.getD j 0 : Nat) : Int)) ∧ w.frozen? ⟨g, j, none⟩ = false := by
  have hm : m = od.length := by
    rcases h.own.2 with ⟨q, _⟩ | ⟨_, _, _, q, _⟩
    · cases q
    · cases q; rfl
  subst hm
  refine ⟨?_, h.own.frozenAt j⟩
  rw [h.own.cellAt j (by omega), List.getElem?_map, List.getElem?_eq_getElem hj, List.getD_eq_getElem?_getD, List.getElem?_eq_getElem hj]
  rfl
end
set_option maxRecDepth 20000 in
set_option maxHeartbeats 4000000 in
theorem reverse_any (W w : World) (B K gs gr gn : Nat) (bv : Value) (g c n : Nat) (sn : List Bool) (od rk : List Nat) (ne : List Int) (hn : od.length ≤ 400) (h0 : 0 < od.length)
    (h : Wf W w B K gs gr gn bv (.slice (some ⟨g, 0, none⟩) od.length c) n sn od rk ne) :
    Calls Try.prog 25 #[.slice (some ⟨g, 0, none⟩) od.length c] w fun e w' => e = .returned (.tuple #[]) ∧ Wf W w' B K gs gr gn bv (.slice (some ⟨g, 0, none⟩) od.length c) n sn od.reverse rk ne := by
  have r1 : -9223372036854775808 ≤ (od.length : Int) - 1 := by omega
  have r2 : (od.length : Int) - 1 ≤ 9223372036854775807 := by omega
  obtain ⟨L, hL⟩ := hid_ex2 od.length
  have hLi : (L : Int) ≤ 400 := by have := hL.out; omega
  rw [← hL.out] at r1 r2 h ⊢
  go_enter Try.func25, Try.ntmps25
  go_wp2_with fail
  go_loopw [2, 3] (fun i j wr => ∃ (k : Nat) (cur : List Nat), i = .int .i64 (k : Int) ∧ j = .int .i64 ((L : Int) - 1 - k) ∧ k ≤ 400 ∧ Hid (Turned od cur k) ∧ Wf W wr B K gs gr gn bv (.slice (some ⟨g, 0, none⟩) L c) n sn cur rk ne) (fun i _ _ => 400 - (intOf i).toNat)
  case atStart => exact ⟨0, od, rfl, by simp, by omega, Turned.start od, h⟩
  case round =>
    obtain ⟨k, cur, rfl, rfl, hk, hT, hW⟩ := hrel
    by_cases hlt : (k : Int) < (L : Int) - 1 - k
    · obtain ⟨j, hj⟩ : ∃ j : Nat, (L : Int) - 1 - k = (j : Int) := ⟨((L : Int) - 1 - k).toNat, by omega⟩
      have hjk : j + k + 1 = od.length := by have := hL.out; omega
      rw [hj] at hlt ⊢
      have hT2 := hT.out.step hjk (by omega)
      have hcl := hT.out.1
      obtain ⟨d1, f1⟩ := hW.odCell k (by omega)
      obtain ⟨d2, f2⟩ := hW.odCell j (by omega)
      have hs1 : Wf W ((wr.drew.setCell ⟨g, k, none⟩ (.int .i64 ((cur.getD j 0 : Nat) : Int))).setCell ⟨g, j, none⟩ (.int .i64 ((cur.getD k 0 : Nat) : Int))) B K gs gr gn bv (.slice (some ⟨g, 0, none⟩) L c) n sn ((cur.set k (cur.getD j 0)).set j (cur.getD k 0)) rk ne := ((hW.later (Later.drew _)).setOd k (cur.getD j 0)).setOd j (cur.getD k 0)
      have hs2 : Wf W ((wr.drew.setCell ⟨g, j, none⟩ (.int .i64 ((cur.getD k 0 : Nat) : Int))).setCell ⟨g, k, none⟩ (.int .i64 ((cur.getD j 0 : Nat) : Int))) B K gs gr gn bv (.slice (some ⟨g, 0, none⟩) L c) n sn ((cur.set k (cur.getD j 0)).set j (cur.getD k 0)) rk ne := by
        have := ((hW.later (Later.drew wr)).setOd j (cur.getD k 0)).setOd k (cur.getD j 0)
        rw [List.set_comm _ _ (by omega)] at this
        exact this
      have hjL : (j : Int) < (L : Int) := by omega
      have hkL : (k : Int) < (L : Int) := by omega
      have hkj : k ≠ j := by omega
      have hkj' : j ≠ k := by omega
      have q1 : -9223372036854775808 ≤ (j : Int) - 1 := by omega
      have q2 : (j : Int) - 1 ≤ 9223372036854775807 := by omega
      obtain ⟨X, hX⟩ := hid_ex2 ((cur.getD k 0 : Nat) : Int)
      obtain ⟨Y, hY⟩ := hid_ex2 ((cur.getD j 0 : Nat) : Int)
      rw [← hX.out, ← hY.out] at hs1 hs2
      rw [← hX.out] at d1
      rw [← hY.out] at d2
      have HS : Hid (Wf W ((wr.drew.setCell ⟨g, k, none⟩ (.int .i64 Y)).setCell ⟨g, j, none⟩ (.int .i64 X)) B K gs gr gn bv (.slice (some ⟨g, 0, none⟩) L c) n sn ((cur.set k (cur.getD j 0)).set j (cur.getD k 0)) rk ne ∧ Wf W ((wr.drew.setCell ⟨g, j, none⟩ (.int .i64 X)).setCell ⟨g, k, none⟩ (.int .i64 Y)) B K gs gr gn bv (.slice (some ⟨g, 0, none⟩) L c) n sn ((cur.set k (cur.getD j 0)).set j (cur.getD k 0)) rk ne) := ⟨hs1, hs2⟩
      clear hW hT hs1 hs2
      go_wp2_with fail
      go_region
      all_goals
        go_wp2_with fail
        go_roundw
        case rel => exact ⟨k + 1, _, by go_num, by rw [← hj]; go_num, by omega, hT2, by first | exact HS.out.1 | exact HS.out.2⟩
        case measure => simp [intOf]; omega
    · have hT2 := hT.out.done (by have := hL.out; omega)
      rw [hT2] at hW
      have hlt' : decide ((k : Int) < (L : Int) - 1 - k) = false := decide_eq_false hlt
      clear hT
      go_wp2_with fail
      refine bodyPost_end (results_none rfl _ _ _) rfl ?_
      exact ⟨rfl, hW⟩
end Go.Proofs.Ythammngddmkhhaa
