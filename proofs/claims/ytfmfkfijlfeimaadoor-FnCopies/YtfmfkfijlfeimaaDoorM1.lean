/- Slices of ints: how they are read, held against each other, marked and copied by the laws' own functions. -/
import Derived.Test.YtfmfkfijlfeimaaDoorD2
namespace Go.Proofs.YtfmfkfijlfeimaaDoor
open Go.RowKit

/-- A slice of ints that can be read. -/
def Rd (w : World) (v : Value) (zs : List Int) : Prop :=
  ∃ a cap, v = .slice a zs.length cap ∧ (zs.length : Int) ≤ 9223372036854775807 ∧
    ∀ j, j < zs.length → ∃ g off, a = some ⟨g, off, none⟩ ∧ g < w.heap.size ∧ w.cell? ⟨g, off + j, none⟩ = some (.int .i64 (zs.getD j 0))
theorem Rd.later {w w' : World} {v : Value} {zs : List Int} (h : Rd w v zs) (hb : Later w w') : Rd w' v zs := by
  obtain ⟨a, cap, rfl, hl, hc⟩ := h
  refine ⟨a, cap, rfl, hl, fun j hj => ?_⟩
  obtain ⟨g, off, rfl, hg, hv⟩ := hc j hj
  exact ⟨g, off, rfl, Nat.lt_of_lt_of_le hg hb.size, by rw [Below.cell hb (p := ⟨g, off + j, none⟩) hg]; exact hv⟩
theorem Rd.drewN {w : World} {v : Value} {zs : List Int} (h : Rd w v zs) (n : Nat) : Rd (w.drewN n) v zs := h

theorem ret_bool {a b : Bool} (h : a = b) : Ending.returned (.bool a) = .returned (.bool b) := by rw [h]
theorem eq_of_getD {xs ys : List Int} (hl : xs.length = ys.length) (h : ∀ j, j < xs.length → xs.getD j 0 = ys.getD j 0) : xs = ys := by
  apply List.ext_getElem hl
  intro j h1 h2
  have := h j h1
  rwa [List.getD_eq_getElem?_getD, List.getD_eq_getElem?_getD, List.getElem?_eq_getElem h1, List.getElem?_eq_getElem h2] at this

set_option maxHeartbeats 400000 in
theorem eqints_any (v1 v2 : Value) (xs ys : List Int) (w : World) (h1 : Rd w v1 xs) (h2 : Rd w v2 ys) :
    Calls Tryd.prog 33 #[v1, v2] w fun e w' => e = .returned (.bool (decide (xs = ys))) ∧ ∃ n, w' = w.drewN n := by
  obtain ⟨a, cap, rfl, hl, hc⟩ := h1
  obtain ⟨a', cap', rfl, hl', hc'⟩ := h2
  by_cases hlen : xs.length = ys.length
  · have hle : ((xs.length : Int) != (ys.length : Int)) = false := by simp [hlen]
    go_enter Tryd.func33, Tryd.ntmps33
    go_wp2
    go_loopw [5] (fun i wr => ∃ (k n : Nat), i = .int .i64 (k : Int) ∧ k ≤ xs.length ∧ wr = w.drewN n ∧ Hid (∀ j, j < k → xs.getD j 0 = ys.getD j 0)) (fun i _ => xs.length - (intOf i).toNat)
    case atStart => exact ⟨0, 0, rfl, Nat.zero_le _, rfl, fun j hj => absurd hj (Nat.not_lt_zero _)⟩
    case round =>
      obtain ⟨k, n, rfl, hk, rfl, hall⟩ := hrel
      by_cases hlt : k < xs.length
      · obtain ⟨g, off, rfl, _, hv⟩ := hc k hlt
        obtain ⟨g', off', rfl, _, hv'⟩ := hc' k (by omega)
        have i1 : (k : Int) < (xs.length : Int) := by omega
        have i2 : (k : Int) < (ys.length : Int) := by omega
        generalize hz : xs.getD k 0 = z at hv
        generalize hz' : ys.getD k 0 = z' at hv'
        have HZ : Hid (xs.getD k 0 = z) := hz
        have HZ' : Hid (ys.getD k 0 = z') := hz'
        clear hz hz' hc hc'
        by_cases he : z = z'
        · have hne : (z != z') = false := by simp [he]
          go_wp2
          go_quiet (fail)
          go_wp2
          go_roundw
          case rel => exact ⟨k + 1, _, by go_num, by omega, rfl, fun j hj => by
              rcases Nat.lt_or_ge j k with a | a
              · exact hall.out j a
              · have : j = k := by omega
                rw [this, HZ.out, HZ'.out, he]⟩
          case measure => simp [intOf]; omega
        · have hne : (z != z') = true := by simp [he]
          go_wp2
          go_quiet (fail)
          go_wp2
          go_ret
          exact ⟨ret_bool (decide_eq_false (fun h => he (by rw [← HZ.out, ← HZ'.out, h]))).symm, _, World.drewN_drewN _ _ _⟩
      · have hlt' : decide ((k : Int) < (xs.length : Int)) = false := by simp; omega
        go_wp2
        go_ret
        exact ⟨ret_bool (decide_eq_true (eq_of_getD hlen (fun j hj => hall.out j (by omega)))).symm, _, rfl⟩
  · have hle : ((xs.length : Int) != (ys.length : Int)) = true := by simp; omega
    go_enter Tryd.func33, Tryd.ntmps33
    go_wp2
    go_ret
    exact ⟨ret_bool (decide_eq_false (fun h => hlen (by rw [h]))).symm, 0, rfl⟩

/-- The marks k, k + 1, .. -/
def iotas (k : Int) (n : Nat) : List Value := (List.range n).map fun j : Nat => Value.int .i64 (k + j)
theorem iotas_len (k : Int) (n : Nat) : (iotas k n).length = n := by simp [iotas]
theorem iotas_succ (k : Int) (n : Nat) : iotas k (n + 1) = iotas k n ++ [.int .i64 (k + n)] := by simp [iotas, List.range_succ]
theorem iotas_get (k : Int) (n j : Nat) (h : j < n) : (iotas k n)[j]? = some (.int .i64 (k + j)) := by simp [iotas, h]
theorem mark_step {k : Int} {j : Nat} {xs : List Value} (h : j < xs.length) : (iotas k j ++ xs.drop j).set j (.int .i64 (k + j)) = iotas k (j + 1) ++ xs.drop (j + 1) := by
  rw [List.set_append_right _ _ (by rw [iotas_len]; omega), iotas_len, Nat.sub_self, iotas_succ, List.append_assoc]
  congr 1
  rw [List.drop_eq_getElem_cons h]
  rfl

theorem own_cases {w : World} {base : Nat} {v : Value} {n : Nat} {xs : List Value} (h : w.ownsRow base 3 1 v n xs) :
    (v = .slice none 0 0 ∧ n = 0 ∧ xs = []) ∨ ∃ g cap, v = .slice (some ⟨g, 0, none⟩) n cap ∧ base ≤ g ∧ g < w.heap.size ∧ n ≤ maxLen := by
  rcases h.2 with ⟨rfl, rfl⟩ | ⟨g, cap, cur, rfl, hb, hg, hn, hm, _, _⟩
  · exact .inl ⟨rfl, rfl, List.eq_nil_of_length_eq_zero (by simpa using h.1)⟩
  · exact .inr ⟨g, cap, rfl, hb, (Array.getElem?_eq_some_iff.1 hg).1, Nat.le_trans hn hm⟩

theorem grown_trans {a b c : World} {r : Option Nat} (h : a.grownBy b r) (k : b.grownBy c r) : a.grownBy c r :=
  ⟨k.os.trans h.os, k.tape.trans h.tape, k.output.trans h.output, Nat.le_trans h.size k.size, fun i hi hn => (k.block i (Nat.lt_of_lt_of_le hi h.size) hn).trans (h.block i hi hn)⟩

set_option maxHeartbeats 400000 in
theorem mark_any (base g cap n : Nat) (xs : List Value) (k0 : Int) (w : World) (hk0 : 0 ≤ k0) (hk1 : k0 + n ≤ 4611686018427387904) (h : w.ownsRow base 3 1 (.slice (some ⟨g, 0, none⟩) n cap) n xs) :
    Calls Tryd.prog 35 #[.slice (some ⟨g, 0, none⟩) n cap, .int .i64 k0] w fun e w' => e = .returned (.int .i64 (k0 + n)) ∧ w'.ownsRow base 3 1 (.slice (some ⟨g, 0, none⟩) n cap) n (iotas k0 n) ∧ w.grownBy w' (some g) := by
  have hxl : xs.length = n := by have := h.1; omega
  go_enter Tryd.func35, Tryd.ntmps35
  go_wp2
  go_loopw [1, 5] (fun kk i wr => ∃ j : Nat, kk = .int .i64 (k0 + j) ∧ i = .int .i64 (j : Int) ∧ j ≤ n ∧ wr.ownsRow base 3 1 (.slice (some ⟨g, 0, none⟩) n cap) n (iotas k0 j ++ xs.drop j) ∧ w.grownBy wr (some g)) (fun _ i _ => n - (intOf i).toNat)
  case atStart => exact ⟨0, by simp, rfl, Nat.zero_le _, by simpa [iotas] using h, World.grownBy.refl _ _⟩
  case round =>
    obtain ⟨j, rfl, rfl, hj, hown, hgr⟩ := hrel
    by_cases hlt : j < n
    · have hi : (j : Int) < (n : Int) := by omega
      have hst := hown.stored j (.int .i64 (k0 + j))
      have hcell : wr.cell? ⟨g, j, none⟩ = some (xs[j]'(by omega)) := by
        rw [hown.cellAt j (by omega), List.getElem?_append_right (by rw [iotas_len]; omega), iotas_len, Nat.sub_self, List.getElem?_drop, Nat.add_zero, List.getElem?_eq_getElem]
      have hfr := hown.frozenAt j
      rw [mark_step (by omega)] at hst
      obtain ⟨hs1, hs2⟩ := hst
      have hb1 : 0 ≤ k0 + j := by omega
      have hb2 : k0 + j ≤ 4611686018427387904 := by omega
      clear hown
      go_wp2
      go_roundw
      case rel => exact ⟨j + 1, by go_num, by go_num, by omega, hs1, grown_trans hgr hs2⟩
      case measure => simp [intOf]; omega
    · have hlt' : decide ((j : Int) < (n : Int)) = false := by simp; omega
      have hjn : j = n := by omega
      subst hjn
      go_wp2
      go_ret
      exact ⟨rfl, by rw [List.drop_eq_nil_of_le (by omega), List.append_nil] at hown; exact hown, hgr⟩

end Go.Proofs.YtfmfkfijlfeimaaDoor
