/- Words and names, by the program. -/
import Derived.Test.YtleakieppapjmaaDoorT7
namespace Go.Proofs.YtleakieppapjmaaDoor
open Go.RowKit

theorem ilow_any (z : Int) (w : World) : Calls Tryd.prog 35 #[.int .u8 z] w fun e w' => e = .returned (.bool (low z)) ∧ w' = w := by
  unfold low
  by_cases h1 : 97 ≤ z
  · rw [decide_eq_true h1]
    go_enter Tryd.func35, Tryd.ntmps35
    go_wp2
    go_ret
    exact ⟨by simp, rfl⟩
  · rw [decide_eq_false h1]
    go_enter Tryd.func35, Tryd.ntmps35
    go_wp2
    go_ret
    exact ⟨rfl, rfl⟩
theorem iup_any (z : Int) (w : World) : Calls Tryd.prog 36 #[.int .u8 z] w fun e w' => e = .returned (.bool (up z)) ∧ w' = w := by
  unfold up
  by_cases h1 : 65 ≤ z
  · rw [decide_eq_true h1]
    go_enter Tryd.func36, Tryd.ntmps36
    go_wp2
    go_ret
    exact ⟨by simp, rfl⟩
  · rw [decide_eq_false h1]
    go_enter Tryd.func36, Tryd.ntmps36
    go_wp2
    go_ret
    exact ⟨rfl, rfl⟩
theorem idig_any (z : Int) (w : World) : Calls Tryd.prog 27 #[.int .u8 z] w fun e w' => e = .returned (.bool (dig z)) ∧ w' = w := by
  unfold dig
  by_cases h1 : 48 ≤ z
  · rw [decide_eq_true h1]
    go_enter Tryd.func27, Tryd.ntmps27
    go_wp2
    go_ret
    exact ⟨by simp, rfl⟩
  · rw [decide_eq_false h1]
    go_enter Tryd.func27, Tryd.ntmps27
    go_wp2
    go_ret
    exact ⟨rfl, rfl⟩

def ldB (z : Int) : Bool := low z || dig z
set_option maxHeartbeats 1000000 in
theorem irest_any (v : Value) (zs : List Int) (w : World) (h : RdB w v zs) : Calls Tryd.prog 44 #[v] w fun e w' => e = .returned (.bool (zs.all ldB)) ∧ w' = w := by
  obtain ⟨a, cap, rfl, hl, hz, hc⟩ := h
  go_enter Tryd.func44, Tryd.ntmps44
  go_wp2_with fail
  go_loop [7] (fun i => ∃ k : Nat, i = .int .i64 (k : Int) ∧ k ≤ zs.length ∧ Hid (∀ j, j < k → ldB (zs.getD j 0) = true)) (fun i => zs.length - (intOf i).toNat)
  case atStart => exact ⟨0, rfl, Nat.zero_le _, fun j hj => absurd hj (Nat.not_lt_zero _)⟩
  case round =>
    obtain ⟨k, rfl, hk, hall⟩ := hrel
    by_cases hlt : k < zs.length
    · obtain ⟨g, off, rfl, _, hv⟩ := hc k hlt
      have i1 : (k : Int) < (zs.length : Int) := by omega
      have HZ : Hid (ldB (zs.getD k 0) = true → ∀ j, j < k + 1 → ldB (zs.getD j 0) = true) := fun h j hj => by
        rcases Nat.lt_or_ge j k with a | a
        · exact hall.out j a
        · have : j = k := by omega
          rw [this]; exact h
      have HF : Hid (ldB (zs.getD k 0) = false → zs.all ldB = false) := fun h => by
        rw [← Bool.not_eq_true, List.all_eq_true]
        intro ha
        have := ha (zs.getD k 0) (by rw [List.getD_eq_getElem?_getD, List.getElem?_eq_getElem hlt]; exact List.getElem_mem _)
        rw [this] at h
        cases h
      generalize zs.getD k 0 = z at *
      have hlo := ilow_any z w
      have hdi := idig_any z w
      clear hc hall
      cases q : low z
      · cases q' : dig z
        · rw [q] at hlo
          rw [q'] at hdi
          have hf := HF.out (by unfold ldB; rw [q, q']; rfl)
          go_wp2_with (first | (go_at_call 35; refine hlo.mono ?_; rintro e w' ⟨rfl, hww⟩; obtain rfl := hww.symm) | (go_at_call 27; refine hdi.mono ?_; rintro e w' ⟨rfl, hww⟩; obtain rfl := hww.symm))
          go_ret
          exact ⟨ret_bool hf.symm, rfl⟩
        · rw [q] at hlo
          rw [q'] at hdi
          have hn := HZ.out (by unfold ldB; rw [q, q']; rfl)
          have HN : Hid (∀ j, j < k + 1 → ldB (zs.getD j 0) = true) := hn
          clear hn
          go_wp2_with (first | (go_at_call 35; refine hlo.mono ?_; rintro e w' ⟨rfl, hww⟩; obtain rfl := hww.symm) | (go_at_call 27; refine hdi.mono ?_; rintro e w' ⟨rfl, hww⟩; obtain rfl := hww.symm))
          go_round
          case rel => exact ⟨k + 1, by go_num, by omega, HN⟩
          case measure => simp [intOf]; omega
      · rw [q] at hlo
        have hn := HZ.out (by unfold ldB; rw [q]; rfl)
        have HN : Hid (∀ j, j < k + 1 → ldB (zs.getD j 0) = true) := hn
        clear hn
        go_wp2_with (first | (go_at_call 35; refine hlo.mono ?_; rintro e w' ⟨rfl, hww⟩; obtain rfl := hww.symm) | (go_at_call 27; refine hdi.mono ?_; rintro e w' ⟨rfl, hww⟩; obtain rfl := hww.symm))
        go_round
        case rel => exact ⟨k + 1, by go_num, by omega, HN⟩
        case measure => simp [intOf]; omega
    · have i1 : ¬ (k : Int) < (zs.length : Int) := by omega
      have i2 : decide ((k : Int) < (zs.length : Int)) = false := decide_eq_false i1
      have HA : Hid (zs.all ldB = true) := show _ = _ by
        rw [List.all_eq_true]
        intro z hm
        obtain ⟨j, hj, rfl⟩ := List.mem_iff_getElem.1 hm
        have := hall.out j (by omega)
        rwa [List.getD_eq_getElem?_getD, List.getElem?_eq_getElem hj] at this
      clear hall hc
      go_wp2_with fail
      go_ret
      exact ⟨ret_bool HA.out.symm, rfl⟩

theorem isize_any (a : Option Addr) (n cap : Nat) (w : World) (hn : (n : Int) ≤ 9223372036854775807) : Calls Tryd.prog 43 #[.slice a n cap] w fun e w' => e = .returned (.bool (decide (1 ≤ n) && decide (n ≤ 8))) ∧ w' = w := by
  by_cases h1 : 1 ≤ n
  · have h1' : (1 : Int) ≤ (n : Int) := by omega
    by_cases h8 : n ≤ 8
    · have h8' : (n : Int) ≤ 8 := by omega
      rw [decide_eq_true h1, decide_eq_true h8]
      go_enter Tryd.func43, Tryd.ntmps43
      go_wp2
      go_ret
      exact ⟨by simp <;> omega, rfl⟩
    · have h8' : ¬ (n : Int) ≤ 8 := by omega
      rw [decide_eq_true h1, decide_eq_false h8]
      go_enter Tryd.func43, Tryd.ntmps43
      go_wp2
      go_ret
      exact ⟨by simp <;> omega, rfl⟩
  · have h1' : ¬ (1 : Int) ≤ (n : Int) := by omega
    rw [decide_eq_false h1]
    go_enter Tryd.func43, Tryd.ntmps43
    go_wp2
    go_ret
    exact ⟨by simp, rfl⟩
theorem RdB.tail {w : World} {g off n cap : Nat} {zs : List Int} {c : Nat} (h : RdB w (.slice (some ⟨g, off, none⟩) n cap) zs) (hn : 1 ≤ zs.length) (a : Option Addr) (ha : 1 < zs.length → a = some ⟨g, off + 1, none⟩) (m : Nat) (hm : m = zs.length - 1) : RdB w (.slice a m c) zs.tail := by
  obtain ⟨_, _, e, hl, hb, hc⟩ := h
  cases e
  subst hm
  have ht : zs.tail.length = zs.length - 1 := List.length_tail
  refine ⟨a, c, by rw [ht], by rw [ht]; omega, fun j => ?_, fun j hj => ?_⟩
  · have := hb (j + 1)
    rw [List.getD_eq_getElem?_getD] at this ⊢
    rwa [List.getElem?_tail]
  · rw [ht] at hj
    obtain ⟨_, _, e, hg, hv⟩ := hc (j + 1) (by omega)
    cases e
    refine ⟨g, off + 1, ha (by omega), hg, ?_⟩
    rw [List.getD_eq_getElem?_getD, List.getElem?_tail, ← List.getD_eq_getElem?_getD, ← hv, show off + 1 + j = off + (j + 1) by omega]

set_option maxHeartbeats 1000000 in
theorem ismall_any (v : Value) (zs : List Int) (w : World) (h : RdN w v zs) : Calls Tryd.prog 30 #[v] w fun e w' => e = .returned (.bool (wordL zs false)) ∧ w' = w := by
  obtain ⟨a, cap, rfl, hl, hm⟩ := h.cap
  have hb := h.rd
  unfold maxLen at hm
  have hsz := isize_any a zs.length cap w (by omega)
  by_cases h1 : 1 ≤ zs.length ∧ zs.length ≤ 8
  · obtain ⟨h1, h8⟩ := h1
    rw [decide_eq_true h1, decide_eq_true h8] at hsz
    obtain ⟨_, _, e, _, _, hc⟩ := id hb
    cases e
    obtain ⟨g, off, rfl, _, hv⟩ := hc 0 (by omega)
    rw [Nat.add_zero] at hv
    have e : wordL zs false = (low (zs.getD 0 0) && zs.tail.all ldB) := by unfold wordL; rw [decide_eq_true h1, decide_eq_true h8]; rfl
    rw [e]
    have hlo := ilow_any (zs.getD 0 0) w
    have hre := fun a c m ha hm => irest_any _ zs.tail w (hb.tail (c := c) h1 a ha m hm)
    have r1 : (1 : Int) ≤ (zs.length : Int) := by omega
    have r2 : (zs.length : Int) ≤ (cap : Int) := by omega
    have r3 : (0 : Int) < (zs.length : Int) := by omega
    generalize zs.getD 0 0 = z at *
    generalize zs.tail.all ldB = tb at *
    clear hc e hb h
    cases q : low z
    all_goals
      rw [q] at hlo
      go_enter Tryd.func30, Tryd.ntmps30
      go_wp2_with (first | (go_at_call 43; refine hsz.mono ?_; rintro e w' ⟨rfl, hww⟩; obtain rfl := hww.symm) | (go_at_call 35; refine hlo.mono ?_; rintro e w' ⟨rfl, hww⟩; obtain rfl := hww.symm) | (go_at_call 44; refine (hre _ _ _ (by first | exact fun _ => rfl | (intro hx; omega)) rfl).mono ?_; rintro e w' ⟨rfl, hww⟩; obtain rfl := hww.symm))
      all_goals
        go_ret
        exact ⟨rfl, rfl⟩
  · have e : wordL zs false = false := by
      unfold wordL
      by_cases h2 : 1 ≤ zs.length
      · rw [decide_eq_true h2, decide_eq_false (show ¬ zs.length ≤ 8 by omega)]; rfl
      · rw [decide_eq_false h2]; rfl
    have e2 : (decide (1 ≤ zs.length) && decide (zs.length ≤ 8)) = false := by
      by_cases h2 : 1 ≤ zs.length
      · rw [decide_eq_true h2, decide_eq_false (show ¬ zs.length ≤ 8 by omega)]; rfl
      · rw [decide_eq_false h2]; rfl
    rw [e]
    rw [e2] at hsz
    clear e e2 h1 h hb
    go_enter Tryd.func30, Tryd.ntmps30
    go_wp2_with (go_at_call 43; refine hsz.mono ?_; rintro e w' ⟨rfl, hww⟩; obtain rfl := hww.symm)
    go_ret
    exact ⟨rfl, rfl⟩

set_option maxHeartbeats 1000000 in
theorem igreat_any (v : Value) (zs : List Int) (w : World) (h : RdN w v zs) : Calls Tryd.prog 31 #[v] w fun e w' => e = .returned (.bool (wordL zs true)) ∧ w' = w := by
  obtain ⟨a, cap, rfl, hl, hm⟩ := h.cap
  have hb := h.rd
  unfold maxLen at hm
  have hsz := isize_any a zs.length cap w (by omega)
  by_cases h1 : 1 ≤ zs.length ∧ zs.length ≤ 8
  · obtain ⟨h1, h8⟩ := h1
    rw [decide_eq_true h1, decide_eq_true h8] at hsz
    obtain ⟨_, _, e, _, _, hc⟩ := id hb
    cases e
    obtain ⟨g, off, rfl, _, hv⟩ := hc 0 (by omega)
    rw [Nat.add_zero] at hv
    have e : wordL zs true = (up (zs.getD 0 0) && zs.tail.all ldB) := by unfold wordL; rw [decide_eq_true h1, decide_eq_true h8]; rfl
    rw [e]
    have hlo := iup_any (zs.getD 0 0) w
    have hre := fun a c m ha hm => irest_any _ zs.tail w (hb.tail (c := c) h1 a ha m hm)
    have r1 : (1 : Int) ≤ (zs.length : Int) := by omega
    have r2 : (zs.length : Int) ≤ (cap : Int) := by omega
    have r3 : (0 : Int) < (zs.length : Int) := by omega
    generalize zs.getD 0 0 = z at *
    generalize zs.tail.all ldB = tb at *
    clear hc e hb h
    cases q : up z
    all_goals
      rw [q] at hlo
      go_enter Tryd.func31, Tryd.ntmps31
      go_wp2_with (first | (go_at_call 43; refine hsz.mono ?_; rintro e w' ⟨rfl, hww⟩; obtain rfl := hww.symm) | (go_at_call 36; refine hlo.mono ?_; rintro e w' ⟨rfl, hww⟩; obtain rfl := hww.symm) | (go_at_call 44; refine (hre _ _ _ (by first | exact fun _ => rfl | (intro hx; omega)) rfl).mono ?_; rintro e w' ⟨rfl, hww⟩; obtain rfl := hww.symm))
      all_goals
        go_ret
        exact ⟨rfl, rfl⟩
  · have e : wordL zs true = false := by
      unfold wordL
      by_cases h2 : 1 ≤ zs.length
      · rw [decide_eq_true h2, decide_eq_false (show ¬ zs.length ≤ 8 by omega)]; rfl
      · rw [decide_eq_false h2]; rfl
    have e2 : (decide (1 ≤ zs.length) && decide (zs.length ≤ 8)) = false := by
      by_cases h2 : 1 ≤ zs.length
      · rw [decide_eq_true h2, decide_eq_false (show ¬ zs.length ≤ 8 by omega)]; rfl
      · rw [decide_eq_false h2]; rfl
    rw [e]
    rw [e2] at hsz
    clear e e2 h1 h hb
    go_enter Tryd.func31, Tryd.ntmps31
    go_wp2_with (go_at_call 43; refine hsz.mono ?_; rintro e w' ⟨rfl, hww⟩; obtain rfl := hww.symm)
    go_ret
    exact ⟨rfl, rfl⟩

end Go.Proofs.YtleakieppapjmaaDoor
