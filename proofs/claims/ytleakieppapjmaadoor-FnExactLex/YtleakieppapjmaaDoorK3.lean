/- Tokens marked and held by the laws' own functions. -/
import Derived.Test.YtleakieppapjmaaDoorK2
namespace Go.Proofs.YtleakieppapjmaaDoor.KL
open Go.RowKit

set_option maxHeartbeats 400000 in
theorem markb_zero (ta : Option Addr) (cap : Nat) (k0 : Int) (w : World) :
    Calls Tryd.prog 9 #[.slice ta 0 cap, .int .i64 k0] w fun e w' => e = .returned (.int .i64 k0) ∧ w' = w := by
  go_enter Tryd.func9, Tryd.ntmps9
  go_wp2
  go_loop [1, 5] (fun kk i => kk = .int .i64 k0 ∧ i = .int .i64 0) (fun _ _ => 0)
  case atStart => exact ⟨rfl, rfl⟩
  case round =>
    obtain ⟨rfl, rfl⟩ := hrel
    go_wp2
    go_ret
    exact ⟨rfl, rfl⟩
set_option maxHeartbeats 400000 in
theorem heldb_zero (ta : Option Addr) (cap : Nat) (k0 : Int) (w : World) :
    Calls Tryd.prog 20 #[.slice ta 0 cap, .int .i64 k0] w fun e w' => e = .returned (.int .i64 k0) ∧ w' = w := by
  go_enter Tryd.func20, Tryd.ntmps20
  go_wp2
  go_loop [1, 5] (fun kk i => kk = .int .i64 k0 ∧ i = .int .i64 0) (fun _ _ => 0)
  case atStart => exact ⟨rfl, rfl⟩
  case round =>
    obtain ⟨rfl, rfl⟩ := hrel
    go_wp2
    go_ret
    exact ⟨rfl, rfl⟩
theorem markb_opt {ta : Option Addr} {g off n : Nat} (ht : 0 < n → ta = some ⟨g, off, none⟩) (cap : Nat) (k0 : Int) (w : World) (hk0 : 0 ≤ k0) (hk1 : k0 + n ≤ 4611686018427387904) (hc : ∀ p ∈ bmarks g off k0 n, (∃ u, w.cell? p.1 = some u) ∧ w.frozen? p.1 = false) :
    Calls Tryd.prog 9 #[.slice ta n cap, .int .i64 k0] w fun e w' => e = .returned (.int .i64 (k0 + n)) ∧ Wrote w w' (bmarks g off k0 n) := by
  rcases Nat.eq_zero_or_pos n with h | h
  · subst h
    refine (markb_zero ta cap k0 w).mono ?_
    rintro e w' ⟨rfl, rfl⟩
    exact ⟨by simp, Wrote.nil _⟩
  · rw [ht h]
    have hm : ∀ j, j < n → ((⟨g, off + j, none⟩ : Addr), Value.int .u8 (IntKind.u8.wrap (k0 + j))) ∈ bmarks g off k0 n := fun j hj => List.mem_map.2 ⟨j, List.mem_range.2 hj, rfl⟩
    exact markb_any g off cap n k0 w hk0 hk1 (fun j hj => (hc _ (hm j hj)).1) (fun j hj => (hc _ (hm j hj)).2)
theorem heldb_opt {ta : Option Addr} {g off n : Nat} (ht : 0 < n → ta = some ⟨g, off, none⟩) (cap : Nat) (k0 : Int) (w : World) (hk0 : 0 ≤ k0) (hk1 : k0 + n ≤ 4611686018427387904) (hc : ∀ p ∈ bmarks g off k0 n, w.cell? p.1 = some p.2) :
    Calls Tryd.prog 20 #[.slice ta n cap, .int .i64 k0] w fun e w' => e = .returned (.int .i64 (k0 + n)) ∧ w' = w := by
  rcases Nat.eq_zero_or_pos n with h | h
  · subst h
    refine (heldb_zero ta cap k0 w).mono ?_
    rintro e w' ⟨rfl, rfl⟩
    exact ⟨by simp, rfl⟩
  · rw [ht h]
    exact heldb_any g off cap n k0 w hk0 hk1 hc

/-- Where a token's text lies: block, place, length. -/
abbrev Lay := Nat × Nat × Nat
def tlen : List Lay → Int
  | [] => 0
  | l :: r => 3 + (l.2.2 : Int) + tlen r
theorem tlen_append (xs ys : List Lay) : tlen (xs ++ ys) = tlen xs + tlen ys := by
  induction xs with
  | nil => simp [tlen]
  | cons x r ih => simp [tlen, ih]; omega
theorem tlen_nonneg (xs : List Lay) : 0 ≤ tlen xs := by
  induction xs with
  | nil => simp [tlen]
  | cons x r ih => simp [tlen]; omega
def lay (ls : List Lay) (i : Nat) : Lay := ls.getD i (0, 0, 0)
theorem tlen_take {ls : List Lay} {i : Nat} (h : i < ls.length) : tlen (ls.take (i + 1)) = tlen (ls.take i) + (3 + ((lay ls i).2.2 : Int)) := by
  rw [List.take_succ_eq_append_getElem h, tlen_append]
  unfold lay
  rw [List.getD_eq_getElem?_getD, List.getElem?_eq_getElem h]
  simp [tlen]
theorem tlen_take_le {ls : List Lay} {i : Nat} : tlen (ls.take i) ≤ tlen ls := by
  have h := tlen_append (ls.take i) (ls.drop i)
  rw [List.take_append_drop] at h
  have := tlen_nonneg (ls.drop i)
  omega
/-- A token's marks. -/
def tmark1 (g off : Nat) (k : Int) (i : Nat) (l : Lay) : List (Addr × Value) :=
  [((⟨g, off + i * 4, none⟩ : Addr), Value.int .i64 k), ((⟨g, off + i * 4 + 1, none⟩ : Addr), Value.int .i64 (k + 1)), ((⟨g, off + i * 4 + 2, none⟩ : Addr), Value.int .i64 (k + 1 + 1))] ++ bmarks l.1 l.2.1 (k + 1 + 1 + 1) l.2.2
/-- The first m tokens' marks. -/
def tmarks (g off : Nat) (k : Int) (ls : List Lay) (m : Nat) : List (Addr × Value) := (List.range m).flatMap fun i => tmark1 g off (k + tlen (ls.take i)) i (lay ls i)
theorem tmarks_succ (g off : Nat) (k : Int) (ls : List Lay) (m : Nat) : tmarks g off k ls (m + 1) = tmarks g off k ls m ++ tmark1 g off (k + tlen (ls.take m)) m (lay ls m) := by
  simp [tmarks, List.range_succ]
theorem tmarks_mem {g off : Nat} {k : Int} {ls : List Lay} {i m : Nat} (h : i < m) {p : Addr × Value} (hp : p ∈ tmark1 g off (k + tlen (ls.take i)) i (lay ls i)) : p ∈ tmarks g off k ls m :=
  List.mem_flatMap.2 ⟨i, List.mem_range.2 h, hp⟩
theorem tmarks_le {g off : Nat} {k : Int} {ls : List Lay} {m n : Nat} (h : m ≤ n) {p : Addr × Value} (hp : p ∈ tmarks g off k ls m) : p ∈ tmarks g off k ls n := by
  obtain ⟨i, hi, hq⟩ := List.mem_flatMap.1 hp
  exact tmarks_mem (Nat.lt_of_lt_of_le (List.mem_range.1 hi) h) hq

/-- No place is met twice. -/
def Apart (P : List (Addr × Value)) : Prop := (P.map (·.1)).Nodup
theorem Apart.split {P Q : List (Addr × Value)} (h : Apart (P ++ Q)) : Apart P ∧ Apart Q ∧ ∀ p ∈ P, ∀ q ∈ Q, q.1 ≠ p.1 := by
  unfold Apart at h ⊢
  rw [List.map_append, List.nodup_append] at h
  refine ⟨h.1, h.2.1, fun p hp q hq e => ?_⟩
  exact h.2.2 p.1 (List.mem_map.2 ⟨p, hp, rfl⟩) q.1 (List.mem_map.2 ⟨q, hq, rfl⟩) e.symm
theorem tmarks_apart {g off : Nat} {k : Int} {ls : List Lay} {m n : Nat} (h : Apart (tmarks g off k ls n)) (hm : m ≤ n) : Apart (tmarks g off k ls m) := by
  induction n with
  | zero => have : m = 0 := by omega
            subst this; exact h
  | succ n ih =>
    rcases Nat.lt_or_ge m (n + 1) with a | a
    · rw [tmarks_succ] at h
      exact ih h.split.1 (by omega)
    · have : m = n + 1 := by omega
      subst this; exact h

/-- Where tokens lie, so that each place is a place of its own. -/
structure Spots (w : World) (g off : Nat) (k : Int) (ls : List Lay) : Prop where
  apart : Apart (tmarks g off k ls ls.length)
  there : ∀ p ∈ tmarks g off k ls ls.length, (∃ u, w.cell? p.1 = some u) ∧ w.frozen? p.1 = false
  text : ∀ i, i < ls.length → ∃ ta tc, w.cell? ⟨g, off + i * 4 + 3, none⟩ = some (.slice ta (lay ls i).2.2 tc) ∧ (0 < (lay ls i).2.2 → ta = some ⟨(lay ls i).1, (lay ls i).2.1, none⟩) ∧ ∀ p ∈ tmarks g off k ls ls.length, p.1 ≠ ⟨g, off + i * 4 + 3, none⟩

set_option maxHeartbeats 2000000 in
theorem markt_any (g off cap : Nat) (k0 : Int) (ls : List Lay) (w : World) (hk0 : 0 ≤ k0) (hk1 : k0 + tlen ls ≤ 4611686018427387000) (hl : (ls.length : Int) ≤ 1000000000) (h : Spots w g off k0 ls) :
    Calls Tryd.prog 10 #[.slice (some ⟨g, off, none⟩) ls.length cap, .int .i64 k0] w fun e w' => e = .returned (.int .i64 (k0 + tlen ls)) ∧ Wrote w w' (tmarks g off k0 ls ls.length) := by
  go_enter Tryd.func10, Tryd.ntmps10
  go_wp2
  go_loopw [1, 5] (fun kk i wr => ∃ m : Nat, kk = .int .i64 (k0 + tlen (ls.take m)) ∧ i = .int .i64 (m : Int) ∧ m ≤ ls.length ∧ Wrote w wr (tmarks g off k0 ls m)) (fun _ i _ => ls.length - (intOf i).toNat)
  case atStart => exact ⟨0, by simp [tlen], rfl, Nat.zero_le _, Wrote.nil _⟩
  case round =>
    obtain ⟨m, rfl, rfl, hm, hw⟩ := hrel
    by_cases hlt : m < ls.length
    · have hi : (m : Int) < (ls.length : Int) := by omega
      obtain ⟨ta, tc, ct, hta, hne⟩ := h.text m hlt
      have hle := tlen_take hlt
      have hle2 := @tlen_take_le ls (m + 1)
      have hge := tlen_nonneg (ls.take m)
      have ha := tmarks_apart h.apart (show m + 1 ≤ ls.length from hlt)
      rw [tmarks_succ] at ha
      have hd := ha.split.2.2
      have hin : ∀ p ∈ tmark1 g off (k0 + tlen (ls.take m)) m (lay ls m), (∃ u, w.cell? p.1 = some u) ∧ w.frozen? p.1 = false := fun p hp => h.there p (tmarks_mem hlt hp)
      have hne' : ∀ p ∈ tmark1 g off (k0 + tlen (ls.take m)) m (lay ls m), p.1 ≠ (⟨g, off + m * 4 + 3, none⟩ : Addr) := fun p hp => hne p (tmarks_mem hlt hp)
      obtain ⟨⟨h', o', n'⟩, hlay⟩ : ∃ l, l = lay ls m := ⟨_, rfl⟩
      rw [← hlay] at hle hta ct hd hin hne'
      have hneP : ∀ p ∈ tmarks g off k0 ls m, p.1 ≠ (⟨g, off + m * 4 + 3, none⟩ : Addr) := fun p hp => hne p (tmarks_le (Nat.le_of_lt hlt) hp)
      have hQ := ha.split.2.1
      have hsucc := tmarks_succ g off k0 ls m
      rw [← hlay] at hsucc hQ
      have hK2 : k0 + tlen (ls.take (m + 1)) = k0 + tlen (ls.take m) + 3 + n' := by rw [hle]; simp; omega
      have hb1 : 0 ≤ k0 + tlen (ls.take m) := by omega
      generalize k0 + tlen (ls.take m) = K at *
      have hb2 : K + 3 + n' ≤ 4611686018427387000 := by omega
      generalize tmarks g off k0 ls m = P at *
      have ct' : wr.cell? ⟨g, off + m * 4 + 3, none⟩ = some (.slice ta n' tc) := by rw [hw.other _ hneP]; exact ct
      have hin' : ∀ p ∈ tmark1 g off K m (h', o', n'), (∃ u, wr.cell? p.1 = some u) ∧ wr.frozen? p.1 = false := fun p hp => by
        rw [hw.other p.1 (fun q hq => Ne.symm (hd q hq p hp)), hw.frozen]; exact hin p hp
      have m0 : ((⟨g, off + m * 4, none⟩ : Addr), Value.int .i64 K) ∈ tmark1 g off K m (h', o', n') := List.mem_append_left _ (List.mem_cons_self ..)
      have m1 : ((⟨g, off + m * 4 + 1, none⟩ : Addr), Value.int .i64 (K + 1)) ∈ tmark1 g off K m (h', o', n') := List.mem_append_left _ (List.mem_cons_of_mem _ (List.mem_cons_self ..))
      have m2 : ((⟨g, off + m * 4 + 2, none⟩ : Addr), Value.int .i64 (K + 1 + 1)) ∈ tmark1 g off K m (h', o', n') := List.mem_append_left _ (List.mem_cons_of_mem _ (List.mem_cons_of_mem _ (List.mem_cons_self ..)))
      obtain ⟨⟨u0, c0⟩, f0⟩ := hin' _ m0
      obtain ⟨⟨u1, c1⟩, f1⟩ := hin' _ m1
      obtain ⟨⟨u2, c2⟩, f2⟩ := hin' _ m2
      have a01 : (⟨g, off + m * 4, none⟩ : Addr) ≠ ⟨g, off + m * 4 + 1, none⟩ := fun e => by have := congrArg Addr.off e; simp at this
      have a02 : (⟨g, off + m * 4, none⟩ : Addr) ≠ ⟨g, off + m * 4 + 2, none⟩ := fun e => by have := congrArg Addr.off e; simp at this
      have a12 : (⟨g, off + m * 4 + 1, none⟩ : Addr) ≠ ⟨g, off + m * 4 + 2, none⟩ := fun e => by have := congrArg Addr.off e; simp at this
      have s0 := (Wrote.nil wr).set (fun _ h => by cases h) c0 (.int .i64 K)
      have s1 := s0.set (fun p hp => by rw [List.mem_singleton.1 hp]; exact a01) c1 (.int .i64 (K + 1))
      have s2 := s1.set (fun p hp => by
        rcases List.mem_append.1 hp with hp | hp
        · rw [List.mem_singleton.1 hp]; exact a02
        · rw [List.mem_singleton.1 hp]; exact a12) c2 (.int .i64 (K + 1 + 1))
      have hbm : ∀ p ∈ bmarks h' o' (K + 1 + 1 + 1) n', p ∈ tmark1 g off K m (h', o', n') := fun p hp => List.mem_append_right _ hp
      have hq3 := (show Apart ([((⟨g, off + m * 4, none⟩ : Addr), Value.int .i64 K), ((⟨g, off + m * 4 + 1, none⟩ : Addr), Value.int .i64 (K + 1)), ((⟨g, off + m * 4 + 2, none⟩ : Addr), Value.int .i64 (K + 1 + 1))] ++ bmarks h' o' (K + 1 + 1 + 1) n') from hQ).split.2.2
      have e3 : ([] ++ [((⟨g, off + m * 4, none⟩ : Addr), Value.int .i64 K)] ++ [((⟨g, off + m * 4 + 1, none⟩ : Addr), Value.int .i64 (K + 1))] ++ [((⟨g, off + m * 4 + 2, none⟩ : Addr), Value.int .i64 (K + 1 + 1))] : List (Addr × Value)) = [((⟨g, off + m * 4, none⟩ : Addr), Value.int .i64 K), ((⟨g, off + m * 4 + 1, none⟩ : Addr), Value.int .i64 (K + 1)), ((⟨g, off + m * 4 + 2, none⟩ : Addr), Value.int .i64 (K + 1 + 1))] := rfl
      rw [e3] at s2
      have hM := markb_opt (ta := ta) (g := h') (off := o') (n := n') hta tc (K + 1 + 1 + 1) _ (by omega) (by omega) (fun p hp => by
        rw [s2.other p.1 (fun q hq => Ne.symm (hq3 q hq p hp)), s2.frozen]
        exact hin' p (hbm p hp))
      have hfin : ∀ w4, Wrote (((wr.setCell ⟨g, off + m * 4, none⟩ (.int .i64 K)).setCell ⟨g, off + m * 4 + 1, none⟩ (.int .i64 (K + 1))).setCell ⟨g, off + m * 4 + 2, none⟩ (.int .i64 (K + 1 + 1))) w4 (bmarks h' o' (K + 1 + 1 + 1) n') → Wrote w w4 (tmarks g off k0 ls (m + 1)) := fun w4 h4 => by
        have := s2.trans h4 hq3
        rw [hsucc]
        exact hw.trans this hd
      have ct3 : (((wr.setCell ⟨g, off + m * 4, none⟩ (.int .i64 K)).setCell ⟨g, off + m * 4 + 1, none⟩ (.int .i64 (K + 1))).setCell ⟨g, off + m * 4 + 2, none⟩ (.int .i64 (K + 1 + 1))).cell? ⟨g, off + m * 4 + 3, none⟩ = some (.slice ta n' tc) := by
        rw [s2.other _ (fun q hq => hne' q (List.mem_append_left _ hq))]; exact ct'
      clear hq3 hbm s0 s1 s2 e3 m0 m1 m2 hin hin' hne hne' hneP hQ hsucc ha hd hle hle2 hge hta ct h hlay hw a01 a02 a12
      go_wp2_with fail
      refine hM.mono ?_
      rintro e w4 ⟨rfl, h4⟩
      replace hfin := hfin w4 h4
      clear h4 hM ct3
      go_wp2_with fail
      go_roundw
      case rel => exact ⟨m + 1, by rw [hK2]; congr 1; omega, by go_num, by omega, hfin⟩
      case measure => simp [intOf]; omega
    · have hlt' : decide ((m : Int) < (ls.length : Int)) = false := by simp; omega
      have hge : ¬ (m : Int) < (ls.length : Int) := by omega
      have hmn : m = ls.length := by omega
      subst hmn
      rw [List.take_length] at *
      go_wp2_with fail
      go_ret
      exact ⟨rfl, hw⟩

set_option maxHeartbeats 2000000 in
theorem heldt_any (g off cap : Nat) (k0 : Int) (ls : List Lay) (w : World) (hk0 : 0 ≤ k0) (hk1 : k0 + tlen ls ≤ 4611686018427387000) (hl : (ls.length : Int) ≤ 1000000000) (h : ∀ p ∈ tmarks g off k0 ls ls.length, w.cell? p.1 = some p.2)
    (ht : ∀ i, i < ls.length → ∃ ta tc, w.cell? ⟨g, off + i * 4 + 3, none⟩ = some (.slice ta (lay ls i).2.2 tc) ∧ (0 < (lay ls i).2.2 → ta = some ⟨(lay ls i).1, (lay ls i).2.1, none⟩)) :
    Calls Tryd.prog 11 #[.slice (some ⟨g, off, none⟩) ls.length cap, .int .i64 k0] w fun e w' => e = .returned (.int .i64 (k0 + tlen ls)) ∧ w' = w := by
  go_enter Tryd.func11, Tryd.ntmps11
  go_wp2
  go_loop [1, 5] (fun kk i => ∃ m : Nat, kk = .int .i64 (k0 + tlen (ls.take m)) ∧ i = .int .i64 (m : Int) ∧ m ≤ ls.length) (fun _ i => ls.length - (intOf i).toNat)
  case atStart => exact ⟨0, by simp [tlen], rfl, Nat.zero_le _⟩
  case round =>
    obtain ⟨m, rfl, rfl, hm⟩ := hrel
    by_cases hlt : m < ls.length
    · have hi : (m : Int) < (ls.length : Int) := by omega
      obtain ⟨ta, tc, ct, hta⟩ := ht m hlt
      have hle := tlen_take hlt
      have hle2 := @tlen_take_le ls (m + 1)
      have hge := tlen_nonneg (ls.take m)
      have hin : ∀ p ∈ tmark1 g off (k0 + tlen (ls.take m)) m (lay ls m), w.cell? p.1 = some p.2 := fun p hp => h p (tmarks_mem hlt hp)
      obtain ⟨⟨h', o', n'⟩, hlay⟩ : ∃ l, l = lay ls m := ⟨_, rfl⟩
      rw [← hlay] at hle hta ct hin
      have hK2 : k0 + tlen (ls.take (m + 1)) = k0 + tlen (ls.take m) + 3 + n' := by rw [hle]; simp; omega
      have hb1 : 0 ≤ k0 + tlen (ls.take m) := by omega
      generalize k0 + tlen (ls.take m) = K at *
      have hb2 : K + 3 + n' ≤ 4611686018427387000 := by omega
      have c0 : w.cell? ⟨g, off + m * 4, none⟩ = some (.int .i64 K) := hin (_, _) (List.mem_append_left _ (List.mem_cons_self ..))
      have c1 : w.cell? ⟨g, off + m * 4 + 1, none⟩ = some (.int .i64 (K + 1)) := hin (_, _) (List.mem_append_left _ (List.mem_cons_of_mem _ (List.mem_cons_self ..)))
      have c2 : w.cell? ⟨g, off + m * 4 + 2, none⟩ = some (.int .i64 (K + 1 + 1)) := hin (_, _) (List.mem_append_left _ (List.mem_cons_of_mem _ (List.mem_cons_of_mem _ (List.mem_cons_self ..))))
      have hM := heldb_opt (ta := ta) (g := h') (off := o') (n := n') hta tc (K + 1 + 1 + 1) w (by omega) (by omega) (fun p hp => hin p (List.mem_append_right _ hp))
      have hnn : ¬ K + 1 + 1 + 1 + (n' : Int) < 0 := by omega
      clear hin hle hle2 hge hta h ht hlay
      go_wp2_with fail
      refine hM.mono ?_
      rintro e w4 ⟨rfl, rfl⟩
      clear hM
      go_wp2_with fail
      go_round
      case rel => exact ⟨m + 1, by rw [hK2]; congr 1; omega, by go_num, by omega⟩
      case measure => simp [intOf]; omega
    · have hlt' : decide ((m : Int) < (ls.length : Int)) = false := by simp; omega
      have hge : ¬ (m : Int) < (ls.length : Int) := by omega
      have hmn : m = ls.length := by omega
      subst hmn
      rw [List.take_length] at *
      go_wp2_with fail
      go_ret
      exact ⟨rfl, rfl⟩

end Go.Proofs.YtleakieppapjmaaDoor.KL
