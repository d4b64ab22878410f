/- Images by the program: numbers in bounds, instructions. -/
import Derived.Test.YtlfkjjnhlkaipaaJ6
import Derived.Deep.RegionHeld3
namespace Go.Proofs.Ytlfkjjnhlkaipaa
open Go.RowKit

/-- Is n in lo .. hi? -/
def inB (n lo hi : Int) : Bool := decide (lo ≤ n) && decide (n ≤ hi)
def plB (n c : Int) : Bool := decide (0 ≤ n) && decide (n < c)
theorem place_b {n c : Int} {b : Bool} (hb : plB n c = b) (w : World) : Calls Try.prog 79 #[.int .i64 n, .int .i64 c] w fun e w' => e = .returned (.bool b) ∧ w' = w := by
  subst hb
  unfold plB
  by_cases h : 0 ≤ n
  · rw [decide_eq_true h]
    go_enter Try.func79, Try.ntmps79
    go_wp2
    go_ret
    exact ⟨by simp, rfl⟩
  · rw [decide_eq_false h]
    go_enter Try.func79, Try.ntmps79
    go_wp2
    go_ret
    exact ⟨by simp, rfl⟩
theorem isin_b {n lo hi : Int} {b : Bool} (hb : inB n lo hi = b) (w : World) : Calls Try.prog 22 #[.int .i64 n, .int .i64 lo, .int .i64 hi] w fun e w' => e = .returned (.bool b) ∧ w' = w := by
  subst hb
  unfold inB
  by_cases h : lo ≤ n
  · rw [decide_eq_true h]
    go_enter Try.func22, Try.ntmps22
    go_wp2
    go_ret
    exact ⟨by simp, rfl⟩
  · rw [decide_eq_false h]
    go_enter Try.func22, Try.ntmps22
    go_wp2
    go_ret
    exact ⟨by simp, rfl⟩
def hmB (op : Int) : Bool := op == 10 || (op == 11 || op == 23)
theorem hasmap_b {op : Int} {b : Bool} (hb : hmB op = b) (w : World) : Calls Try.prog 99 #[.int .i64 op] w fun e w' => e = .returned (.bool b) ∧ w' = w := by
  subst hb
  unfold hmB
  cases h0 : (op == 10) with
  | true =>
    go_enter Try.func99, Try.ntmps99
    go_wp2
    go_ret
    exact ⟨rfl, rfl⟩
  | false =>
    cases h1 : (op == 11) with
    | true =>
      go_enter Try.func99, Try.ntmps99
      go_wp2
      go_ret
      exact ⟨rfl, rfl⟩
    | false =>
      go_enter Try.func99, Try.ntmps99
      go_wp2
      go_ret
      exact ⟨by simp, rfl⟩
/-- The least and the greatest N of an op. -/
def bnd (ns nc fr ni op : Int) : Int × Int :=
  if op = 0 then (-9223372036854775808, 9223372036854775807)
  else if op = 2 then (3, fr - 1)
  else if op = 3 then (3, fr - 1)
  else if op = 4 then (0, 6)
  else if op = 5 then (0, 5)
  else if op = 10 then (0, ns - 1)
  else if op = 11 then (0, 2)
  else if op = 16 then (0, 4)
  else if op = 17 then (0, 4)
  else if op = 21 then (0, 1)
  else if op = 24 then (0, 1)
  else if op = 22 then (0, 3)
  else if op = 23 then (0, nc - 1)
  else if op = 26 then (0, ni - 1)
  else if op = 27 then (0, ni - 1)
  else (0, 0)
theorem decOp (k : Int) : (k = 0 ∨ k = 2 ∨ k = 3 ∨ k = 4 ∨ k = 5 ∨ k = 10 ∨ k = 11 ∨ k = 16 ∨ k = 17 ∨ k = 21 ∨ k = 24 ∨ k = 22 ∨ k = 23 ∨ k = 26 ∨ k = 27) ∨ (k ≠ 0 ∧ k ≠ 2 ∧ k ≠ 3 ∧ k ≠ 4 ∧ k ≠ 5 ∧ k ≠ 10 ∧ k ≠ 11 ∧ k ≠ 16 ∧ k ≠ 17 ∧ k ≠ 21 ∧ k ≠ 24 ∧ k ≠ 22 ∧ k ≠ 23 ∧ k ≠ 26 ∧ k ≠ 27) := by omega
set_option maxRecDepth 20000 in
set_option maxHeartbeats 4000000 in
theorem ibnd_any (B g o sn cn ni : Nat) (sa ca ia : Option Addr) (sc cc ic : Nat) (fr op : Int) (w : World) (hs : w.cell? ⟨B, 0, none⟩ = some (.slice sa sn sc)) (hc : w.cell? ⟨B, 1, none⟩ = some (.slice ca cn cc)) (hf : w.cell? ⟨g, o, none⟩ = some (.int .i64 fr)) (hi : w.cell? ⟨g, o + 2, none⟩ = some (.slice ia ni ic))
    (hn1 : (sn : Int) ≤ 9223372036854775807) (hn2 : (cn : Int) ≤ 9223372036854775807) (hn3 : (ni : Int) ≤ 9223372036854775807) (hfr : 0 ≤ fr ∧ fr ≤ 1000) :
    Calls Try.prog 98 #[.pointer (some ⟨B, 0, none⟩), .pointer (some ⟨g, o, none⟩), .int .i64 op] w fun e w' => e = .returned (.tuple #[.int .i64 (bnd sn cn fr ni op).1, .int .i64 (bnd sn cn fr ni op).2]) ∧ ∃ m, w' = w.drewN m := by
  have h1 : -9223372036854775808 ≤ fr - 1 ∧ fr - 1 ≤ 9223372036854775807 := by omega
  have h2 : -9223372036854775808 ≤ (sn : Int) - 1 ∧ (sn : Int) - 1 ≤ 9223372036854775807 := by omega
  have h3 : -9223372036854775808 ≤ (cn : Int) - 1 ∧ (cn : Int) - 1 ≤ 9223372036854775807 := by omega
  have h4 : -9223372036854775808 ≤ (ni : Int) - 1 ∧ (ni : Int) - 1 ≤ 9223372036854775807 := by omega
  obtain ⟨h11, h12⟩ := h1
  obtain ⟨h21, h22⟩ := h2
  obtain ⟨h31, h32⟩ := h3
  obtain ⟨h41, h42⟩ := h4
  rcases decOp op with (rfl | rfl | rfl | rfl | rfl | rfl | rfl | rfl | rfl | rfl | rfl | rfl | rfl | rfl | rfl) | ⟨n0, n2, n3, n4, n5, n10, n11, n16, n17, n21, n24, n22, n23, n26, n27⟩
  · show Calls _ _ _ _ fun e w' => e = .returned (.tuple #[.int .i64 (-9223372036854775808), .int .i64 (9223372036854775807)]) ∧ _
    go_enter Try.func98, Try.ntmps98
    go_wp2
    exact bodyPost_ret (v := .tuple #[.int .i64 (-9223372036854775808), .int .i64 (9223372036854775807)]) (by simp [results, Try.results98, go_sem]) rfl ⟨rfl, 0, rfl⟩
  · show Calls _ _ _ _ fun e w' => e = .returned (.tuple #[.int .i64 (3), .int .i64 (fr - 1)]) ∧ _
    go_enter Try.func98, Try.ntmps98
    go_wp2
    go_quiet (fail)
    go_wp2
    exact bodyPost_ret (v := .tuple #[.int .i64 (3), .int .i64 (fr - 1)]) (by simp [results, Try.results98, go_sem]) rfl ⟨rfl, _, rfl⟩
  · show Calls _ _ _ _ fun e w' => e = .returned (.tuple #[.int .i64 (3), .int .i64 (fr - 1)]) ∧ _
    go_enter Try.func98, Try.ntmps98
    go_wp2
    go_quiet (fail)
    go_wp2
    exact bodyPost_ret (v := .tuple #[.int .i64 (3), .int .i64 (fr - 1)]) (by simp [results, Try.results98, go_sem]) rfl ⟨rfl, _, rfl⟩
  · show Calls _ _ _ _ fun e w' => e = .returned (.tuple #[.int .i64 (0), .int .i64 (6)]) ∧ _
    go_enter Try.func98, Try.ntmps98
    go_wp2
    exact bodyPost_ret (v := .tuple #[.int .i64 (0), .int .i64 (6)]) (by simp [results, Try.results98, go_sem]) rfl ⟨rfl, 0, rfl⟩
  · show Calls _ _ _ _ fun e w' => e = .returned (.tuple #[.int .i64 (0), .int .i64 (5)]) ∧ _
    go_enter Try.func98, Try.ntmps98
    go_wp2
    exact bodyPost_ret (v := .tuple #[.int .i64 (0), .int .i64 (5)]) (by simp [results, Try.results98, go_sem]) rfl ⟨rfl, 0, rfl⟩
  · show Calls _ _ _ _ fun e w' => e = .returned (.tuple #[.int .i64 (0), .int .i64 ((sn : Int) - 1)]) ∧ _
    go_enter Try.func98, Try.ntmps98
    go_wp2
    go_quiet (fail)
    go_wp2
    exact bodyPost_ret (v := .tuple #[.int .i64 (0), .int .i64 ((sn : Int) - 1)]) (by simp [results, Try.results98, go_sem]) rfl ⟨rfl, _, rfl⟩
  · show Calls _ _ _ _ fun e w' => e = .returned (.tuple #[.int .i64 (0), .int .i64 (2)]) ∧ _
    go_enter Try.func98, Try.ntmps98
    go_wp2
    exact bodyPost_ret (v := .tuple #[.int .i64 (0), .int .i64 (2)]) (by simp [results, Try.results98, go_sem]) rfl ⟨rfl, 0, rfl⟩
  · show Calls _ _ _ _ fun e w' => e = .returned (.tuple #[.int .i64 (0), .int .i64 (4)]) ∧ _
    go_enter Try.func98, Try.ntmps98
    go_wp2
    exact bodyPost_ret (v := .tuple #[.int .i64 (0), .int .i64 (4)]) (by simp [results, Try.results98, go_sem]) rfl ⟨rfl, 0, rfl⟩
  · show Calls _ _ _ _ fun e w' => e = .returned (.tuple #[.int .i64 (0), .int .i64 (4)]) ∧ _
    go_enter Try.func98, Try.ntmps98
    go_wp2
    exact bodyPost_ret (v := .tuple #[.int .i64 (0), .int .i64 (4)]) (by simp [results, Try.results98, go_sem]) rfl ⟨rfl, 0, rfl⟩
  · show Calls _ _ _ _ fun e w' => e = .returned (.tuple #[.int .i64 (0), .int .i64 (1)]) ∧ _
    go_enter Try.func98, Try.ntmps98
    go_wp2
    exact bodyPost_ret (v := .tuple #[.int .i64 (0), .int .i64 (1)]) (by simp [results, Try.results98, go_sem]) rfl ⟨rfl, 0, rfl⟩
  · show Calls _ _ _ _ fun e w' => e = .returned (.tuple #[.int .i64 (0), .int .i64 (1)]) ∧ _
    go_enter Try.func98, Try.ntmps98
    go_wp2
    exact bodyPost_ret (v := .tuple #[.int .i64 (0), .int .i64 (1)]) (by simp [results, Try.results98, go_sem]) rfl ⟨rfl, 0, rfl⟩
  · show Calls _ _ _ _ fun e w' => e = .returned (.tuple #[.int .i64 (0), .int .i64 (3)]) ∧ _
    go_enter Try.func98, Try.ntmps98
    go_wp2
    exact bodyPost_ret (v := .tuple #[.int .i64 (0), .int .i64 (3)]) (by simp [results, Try.results98, go_sem]) rfl ⟨rfl, 0, rfl⟩
  · show Calls _ _ _ _ fun e w' => e = .returned (.tuple #[.int .i64 (0), .int .i64 ((cn : Int) - 1)]) ∧ _
    go_enter Try.func98, Try.ntmps98
    go_wp2
    go_quiet (fail)
    go_wp2
    exact bodyPost_ret (v := .tuple #[.int .i64 (0), .int .i64 ((cn : Int) - 1)]) (by simp [results, Try.results98, go_sem]) rfl ⟨rfl, _, rfl⟩
  · show Calls _ _ _ _ fun e w' => e = .returned (.tuple #[.int .i64 (0), .int .i64 ((ni : Int) - 1)]) ∧ _
    go_enter Try.func98, Try.ntmps98
    go_wp2
    go_quiet (fail)
    go_wp2
    exact bodyPost_ret (v := .tuple #[.int .i64 (0), .int .i64 ((ni : Int) - 1)]) (by simp [results, Try.results98, go_sem]) rfl ⟨rfl, _, rfl⟩
  · show Calls _ _ _ _ fun e w' => e = .returned (.tuple #[.int .i64 (0), .int .i64 ((ni : Int) - 1)]) ∧ _
    go_enter Try.func98, Try.ntmps98
    go_wp2
    go_quiet (fail)
    go_wp2
    exact bodyPost_ret (v := .tuple #[.int .i64 (0), .int .i64 ((ni : Int) - 1)]) (by simp [results, Try.results98, go_sem]) rfl ⟨rfl, _, rfl⟩
  · have e : bnd sn cn fr ni op = (0, 0) := by
      unfold bnd
      rw [if_neg n0, if_neg n2, if_neg n3, if_neg n4, if_neg n5, if_neg n10, if_neg n11, if_neg n16, if_neg n17, if_neg n21, if_neg n24, if_neg n22, if_neg n23, if_neg n26, if_neg n27]
    rw [e]
    have m0 : (op == 0) = false := by simpa using n0
    have m2 : (op == 2) = false := by simpa using n2
    have m3 : (op == 3) = false := by simpa using n3
    have m4 : (op == 4) = false := by simpa using n4
    have m5 : (op == 5) = false := by simpa using n5
    have m10 : (op == 10) = false := by simpa using n10
    have m11 : (op == 11) = false := by simpa using n11
    have m16 : (op == 16) = false := by simpa using n16
    have m17 : (op == 17) = false := by simpa using n17
    have m21 : (op == 21) = false := by simpa using n21
    have m24 : (op == 24) = false := by simpa using n24
    have m22 : (op == 22) = false := by simpa using n22
    have m23 : (op == 23) = false := by simpa using n23
    have m26 : (op == 26) = false := by simpa using n26
    have m27 : (op == 27) = false := by simpa using n27
    go_enter Try.func98, Try.ntmps98
    go_wp2
    exact bodyPost_ret (v := .tuple #[.int .i64 0, .int .i64 0]) (by simp [results, Try.results98, go_sem]) rfl ⟨rfl, 0, rfl⟩
end Go.Proofs.Ytlfkjjnhlkaipaa
