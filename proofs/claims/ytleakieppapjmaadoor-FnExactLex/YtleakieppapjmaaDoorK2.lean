/- Tokens: read, and held against each other by the laws' own functions. -/
import Derived.Test.YtleakieppapjmaaDoorK1
import Derived.Deep.RegionWith
namespace Go.Proofs.YtleakieppapjmaaDoor.KL
open Go.RowKit

/-- Kind, At, N, Text. -/
abbrev Tok := Int × Int × Int × List Int
/-- Tokens that can be read. -/
def RdT (w : World) (v : Value) (ts : List Tok) : Prop :=
  ∃ a cap, v = .slice a ts.length cap ∧ (ts.length : Int) ≤ 1000000000 ∧
    ∀ j (hj : j < ts.length), ∃ g off ta tc, a = some ⟨g, off, none⟩ ∧ g < w.heap.size ∧ w.cell? ⟨g, off + j * 4, none⟩ = some (.int .i64 ts[j].1) ∧ w.cell? ⟨g, off + j * 4 + 1, none⟩ = some (.int .i64 ts[j].2.1) ∧ w.cell? ⟨g, off + j * 4 + 2, none⟩ = some (.int .i64 ts[j].2.2.1) ∧
      w.cell? ⟨g, off + j * 4 + 3, none⟩ = some (.slice ta ts[j].2.2.2.length tc) ∧ RdB w (.slice ta ts[j].2.2.2.length tc) ts[j].2.2.2
theorem RdT.later {w w' : World} {v : Value} {ts : List Tok} (h : RdT w v ts) (hb : Later w w') : RdT w' v ts := by
  obtain ⟨a, cap, rfl, hl, hc⟩ := h
  refine ⟨a, cap, rfl, hl, fun j hj => ?_⟩
  obtain ⟨g, off, ta, tc, rfl, hg, h0, h1, h2, h3, h4⟩ := hc j hj
  have e : ∀ o, w'.cell? ⟨g, o, none⟩ = w.cell? ⟨g, o, none⟩ := fun o => Below.cell hb (p := ⟨g, o, none⟩) hg
  exact ⟨g, off, ta, tc, rfl, Nat.lt_of_lt_of_le hg hb.size, by rw [e]; exact h0, by rw [e]; exact h1, by rw [e]; exact h2, by rw [e]; exact h3, h4.later hb⟩
theorem RdT.nil (w : World) : RdT w (.slice none 0 0) [] := ⟨none, 0, rfl, by decide, fun j hj => absurd hj (Nat.not_lt_zero _)⟩

set_option maxHeartbeats 1000000 in
theorem eqtok_any (k1 a1 n1 k2 a2 n2 : Int) (x1 x2 : List Int) (v1 v2 : Value) (w : World) (h1 : RdB w v1 x1) (h2 : RdB w v2 x2) (b : Bool) (hb : Hid (decide (((k1, a1, n1, x1) : Tok) = (k2, a2, n2, x2)) = b)) :
    Calls Tryd.prog 19 #[.agg #[.int .i64 k1, .int .i64 a1, .int .i64 n1, v1], .agg #[.int .i64 k2, .int .i64 a2, .int .i64 n2, v2]] w fun e w' => e = .returned (.bool b) ∧ Later w w' := by
  obtain ⟨p1, c1, rfl, _⟩ := id h1
  obtain ⟨p2, c2, rfl, _⟩ := id h2
  have L := later2 w (.cells #[.int .i64 k1, .int .i64 a1, .int .i64 n1, .slice p1 x1.length c1] 34) (.cells #[.int .i64 k2, .int .i64 a2, .int .i64 n2, .slice p2 x2.length c2] 34)
  by_cases e1 : k1 = k2
  · by_cases e2 : a1 = a2
    · by_cases e3 : n1 = n2
      · subst e1; subst e2; subst e3
        have hb' : Hid (decide (x1 = x2) = b) := by
          have := hb.out
          simp only [Prod.mk.injEq, true_and] at this
          exact this
        have hE := eqb_b hb' (h1.later L) (h2.later L)
        clear h1 h2 hb hb'
        cases b
        all_goals
          go_enter Tryd.func19, Tryd.ntmps19
          go_wp2_with (go_at_call 8; refine hE.mono ?_; rintro e w' ⟨rfl, l1⟩)
          go_ret
          exact ⟨rfl, L.trans l1⟩
      · have ht : (n1 != n2) = true := by simpa using e3
        have hb' : b = false := by rw [← hb.out]; simp [e3]
        subst e1; subst e2; subst hb'
        clear hb h1 h2
        go_enter Tryd.func19, Tryd.ntmps19
        go_wp2
        go_ret
        exact ⟨rfl, L⟩
    · have ht : (a1 != a2) = true := by simpa using e2
      have hb' : b = false := by rw [← hb.out]; simp [e2]
      subst e1; subst hb'
      clear hb h1 h2
      go_enter Tryd.func19, Tryd.ntmps19
      go_wp2
      go_ret
      exact ⟨rfl, L⟩
  · have ht : (k1 != k2) = true := by simpa using e1
    have hb' : b = false := by rw [← hb.out]; simp [e1]
    subst hb'
    clear hb h1 h2
    go_enter Tryd.func19, Tryd.ntmps19
    go_wp2
    go_ret
    exact ⟨rfl, L⟩

set_option maxHeartbeats 2000000 in
theorem eqtoks_any (v1 v2 : Value) (xs ys : List Tok) (w : World) (h1 : RdT w v1 xs) (h2 : RdT w v2 ys) :
    Calls Tryd.prog 7 #[v1, v2] w fun e w' => e = .returned (.bool (decide (xs = ys))) ∧ Later w w' := by
  obtain ⟨a, cap, rfl, hl, _⟩ := id h1
  obtain ⟨a', cap', rfl, hl', _⟩ := id h2
  by_cases hlen : xs.length = ys.length
  · have hle : ((xs.length : Int) != (ys.length : Int)) = false := by simp [hlen]
    have HL : Hid (xs.length = ys.length) := hlen
    clear hlen
    go_enter Tryd.func7, Tryd.ntmps7
    go_wp2
    go_loopw [5] (fun i wr => ∃ (k : Nat), i = .int .i64 (k : Int) ∧ k ≤ xs.length ∧ Later w wr ∧ Hid (∀ j, j < k → xs[j]? = ys[j]?)) (fun i _ => xs.length - (intOf i).toNat)
    case atStart => exact ⟨0, rfl, Nat.zero_le _, Later.refl _, fun j hj => absurd hj (Nat.not_lt_zero _)⟩
    case round =>
      obtain ⟨k, rfl, hk, lr, hall⟩ := hrel
      by_cases hlt : k < xs.length
      · obtain ⟨_, _, e1, _, hc⟩ := h1.later lr
        cases e1
        obtain ⟨_, _, e2, _, hc'⟩ := h2.later lr
        cases e2
        obtain ⟨g, off, ta, tc, rfl, _, c0, c1, c2, c3, c4⟩ := hc k hlt
        obtain ⟨g', off', ta', tc', rfl, _, d0, d1, d2, d3, d4⟩ := hc' k (by have := HL.out; omega)
        have i1 : (k : Int) < (xs.length : Int) := by omega
        have i2 : (k : Int) < (ys.length : Int) := by have := HL.out; omega
        obtain ⟨b, hb0⟩ : ∃ b, decide (xs[k] = ys[k]'(by have := HL.out; omega)) = b := ⟨_, rfl⟩
        have hb : Hid (decide (xs[k] = ys[k]'(by have := HL.out; omega)) = b) := hb0
        clear hb0
        have hE := fun w' (l : Later wr w') => eqtok_any _ _ _ _ _ _ _ _ _ _ w' (c4.later l) (d4.later l) b hb
        have hb2 : Hid (if b then xs[k]? = ys[k]? else xs ≠ ys) := by
          have := hb.out
          cases b
          · refine (show xs ≠ ys from fun e => ?_)
            subst e
            simp at this
          · show xs[k]? = ys[k]?
            rw [List.getElem?_eq_getElem hlt, List.getElem?_eq_getElem (by have := HL.out; omega)]
            rw [of_decide_eq_true this]
        generalize xs[k].1 = q0 at *
        generalize xs[k].2.1 = q1 at *
        generalize xs[k].2.2.1 = q2 at *
        generalize xs[k].2.2.2.length = q3 at *
        generalize (ys[k]'(by have := HL.out; omega)).1 = s0 at *
        generalize (ys[k]'(by have := HL.out; omega)).2.1 = s1 at *
        generalize (ys[k]'(by have := HL.out; omega)).2.2.1 = s2 at *
        generalize (ys[k]'(by have := HL.out; omega)).2.2.2.length = s3 at *
        clear c4 d4 hc hc' hb h1 h2
        cases b
        · go_wp2_with fail
          go_region_with (go_at_call 19; refine (hE _ (Later.drew _)).mono ?_; rintro e w1 ⟨rfl, l1⟩)
          all_goals
            go_wp2_with fail
            go_ret
            exact ⟨ret_bool (decide_eq_false hb2.out).symm, lr.trans ((Later.drew _).trans l1)⟩
        · go_wp2_with fail
          go_region_with (go_at_call 19; refine (hE _ (Later.drew _)).mono ?_; rintro e w1 ⟨rfl, l1⟩)
          all_goals
            go_wp2_with fail
            go_roundw
            case rel => exact ⟨k + 1, by go_num, by omega, lr.trans ((Later.drew _).trans l1), fun j hj => by
              rcases Nat.lt_or_ge j k with a | a
              · exact hall.out j a
              · have : j = k := by omega
                subst this
                exact hb2.out⟩
            case measure => simp [intOf]; omega
      · have hlt' : decide ((k : Int) < (xs.length : Int)) = false := by simp; omega
        have hge : ¬ (k : Int) < (xs.length : Int) := by omega
        go_wp2
        go_ret
        exact ⟨ret_bool (decide_eq_true (List.ext_getElem? fun j => by
          rcases Nat.lt_or_ge j k with a | a
          · exact hall.out j a
          · rw [List.getElem?_eq_none (by omega), List.getElem?_eq_none (by have := HL.out; omega)])).symm, lr⟩
  · have hle : ((xs.length : Int) != (ys.length : Int)) = true := by simp; omega
    go_enter Tryd.func7, Tryd.ntmps7
    go_wp2
    go_ret
    exact ⟨ret_bool (decide_eq_false (fun h => hlen (by rw [h]))).symm, Later.refl _⟩

end Go.Proofs.YtleakieppapjmaaDoor.KL
