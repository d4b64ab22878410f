/- Images by the model: numbers in bounds, instructions. -/
import Derived.Test.YtlfkjjnhlkaipaaG6
namespace Go.Proofs.Ytlfkjjnhlkaipaa
open Go.RowKit

theorem lin_b {n c : Int} {b : Bool} (hb : plB n c = b) (w : World) : Calls Try.prog 67 #[.int .i64 n, .int .i64 c] w fun e w' => e = .returned (.bool b) ∧ w' = w := by
  subst hb
  unfold plB
  by_cases h : 0 ≤ n
  · rw [decide_eq_true h]
    go_enter Try.func67, Try.ntmps67
    go_wp2
    go_ret
    exact ⟨by simp, rfl⟩
  · rw [decide_eq_false h]
    go_enter Try.func67, Try.ntmps67
    go_wp2
    go_ret
    exact ⟨by simp, rfl⟩
theorem lsafe_b {op : Int} {b : Bool} (hb : hmB op = b) (w : World) : Calls Try.prog 89 #[.int .i64 op] w fun e w' => e = .returned (.bool b) ∧ w' = w := by
  subst hb
  unfold hmB
  cases h0 : (op == 10) with
  | true =>
    go_enter Try.func89, Try.ntmps89
    go_wp2
    go_ret
    exact ⟨rfl, rfl⟩
  | false =>
    cases h1 : (op == 11) with
    | true =>
      go_enter Try.func89, Try.ntmps89
      go_wp2
      go_ret
      exact ⟨rfl, rfl⟩
    | false =>
      go_enter Try.func89, Try.ntmps89
      go_wp2
      go_ret
      exact ⟨by simp, rfl⟩
theorem inB_pl (n c : Int) : inB n 0 (c - 1) = plB n c := by
  unfold inB plB
  congr 1
  apply decide_eq_decide.2
  omega
theorem inB_lt (n c : Int) : inB n 3 (c - 1) = (decide (3 ≤ n) && decide (n < c)) := by
  unfold inB
  congr 1
  apply decide_eq_decide.2
  omega
theorem inB_zero (n : Int) : inB n 0 0 = (n == 0) := by
  unfold inB
  by_cases h : n = 0
  · subst h; rfl
  · have : (n == 0) = false := by simpa using h
    rw [this]
    by_cases h1 : 0 ≤ n
    · rw [decide_eq_true h1, decide_eq_false (by omega)]; rfl
    · rw [decide_eq_false h1]; rfl
theorem inB_any (n : Int) (h : -9223372036854775808 ≤ n ∧ n ≤ 9223372036854775807) : inB n (-9223372036854775808) 9223372036854775807 = true := inB_iff.2 h
set_option maxRecDepth 20000 in
set_option maxHeartbeats 2000000 in
theorem lins_any (sn cn ni : Nat) (sa ca ia : Option Addr) (sc cc ic : Nat) (mv : Value) (main fr pr : Int) (x : Is) (w : World) (hx : -9223372036854775808 ≤ x.n ∧ x.n ≤ 9223372036854775807) (hmv : ∃ a n c, mv = .slice a n c) :
    Calls Try.prog 88 #[.agg #[.slice sa sn sc, .slice ca cn cc, .int .i64 main], .agg #[.int .i64 fr, .int .i64 pr, .slice ia ni ic, mv], .agg #[.int .i64 x.op, .int .i64 x.a, .int .i64 x.b, .int .i64 x.c, .int .i64 x.n]] w fun e w' => e = .returned (.bool (insB sn cn fr ni x)) ∧ Later w w' := by
  obtain ⟨op, a, b, c, n⟩ := x
  obtain ⟨ma, mn, mc, rfl⟩ := hmv
  unfold insB
  dsimp only at *
  rw [show inB op 0 27 = plB op 28 from inB_pl op 28]
  cases e0 : plB op 28 with
  | false =>
    go_enter Try.func88, Try.ntmps88
    go_wp2_with (go_at_call 67; refine (lin_b (by assumption) _).mono ?_; rintro e w1 ⟨rfl, hww⟩; obtain rfl := hww.symm)
    go_ret
    exact ⟨rfl, later3 _ _ _ _⟩
  | true =>
  cases e1 : plB a 16 with
  | false =>
    go_enter Try.func88, Try.ntmps88
    go_wp2_with (go_at_call 67; refine (lin_b (by assumption) _).mono ?_; rintro e w1 ⟨rfl, hww⟩; obtain rfl := hww.symm)
    go_ret
    exact ⟨rfl, later3 _ _ _ _⟩
  | true =>
  cases e2 : plB b 16 with
  | false =>
    go_enter Try.func88, Try.ntmps88
    go_wp2_with (go_at_call 67; refine (lin_b (by assumption) _).mono ?_; rintro e w1 ⟨rfl, hww⟩; obtain rfl := hww.symm)
    go_ret
    exact ⟨rfl, later3 _ _ _ _⟩
  | true =>
  cases e3 : plB c 16 with
  | false =>
    go_enter Try.func88, Try.ntmps88
    go_wp2_with (go_at_call 67; refine (lin_b (by assumption) _).mono ?_; rintro e w1 ⟨rfl, hww⟩; obtain rfl := hww.symm)
    go_ret
    exact ⟨rfl, later3 _ _ _ _⟩
  | true =>
  rw [Bool.true_and, Bool.true_and, Bool.true_and, Bool.true_and]
  rcases decOp op with (rfl | rfl | rfl | rfl | rfl | rfl | rfl | rfl | rfl | rfl | rfl | rfl | rfl | rfl | rfl) | ⟨n0, n2, n3, n4, n5, n10, n11, n16, n17, n21, n24, n22, n23, n26, n27⟩
  · show Calls _ _ _ _ fun e w' => e = .returned (.bool (inB n (-9223372036854775808) 9223372036854775807)) ∧ _
    rw [inB_any n hx]
    go_enter Try.func88, Try.ntmps88
    go_wp2_with (go_at_call 67; refine (lin_b (by assumption) _).mono ?_; rintro e w1 ⟨rfl, hww⟩; obtain rfl := hww.symm)
    go_ret
    exact ⟨rfl, later3 _ _ _ _⟩
  · show Calls _ _ _ _ fun e w' => e = .returned (.bool (inB n 3 (fr - 1))) ∧ _
    rw [inB_lt]
    by_cases h3 : 3 ≤ n
    · rw [decide_eq_true h3]
      go_enter Try.func88, Try.ntmps88
      go_wp2_with (go_at_call 67; refine (lin_b (by assumption) _).mono ?_; rintro e w1 ⟨rfl, hww⟩; obtain rfl := hww.symm)
      go_ret
      exact ⟨by simp, later3 _ _ _ _⟩
    · rw [decide_eq_false h3]
      go_enter Try.func88, Try.ntmps88
      go_wp2_with (go_at_call 67; refine (lin_b (by assumption) _).mono ?_; rintro e w1 ⟨rfl, hww⟩; obtain rfl := hww.symm)
      go_ret
      exact ⟨by simp, later3 _ _ _ _⟩
  · show Calls _ _ _ _ fun e w' => e = .returned (.bool (inB n 3 (fr - 1))) ∧ _
    rw [inB_lt]
    by_cases h3 : 3 ≤ n
    · rw [decide_eq_true h3]
      go_enter Try.func88, Try.ntmps88
      go_wp2_with (go_at_call 67; refine (lin_b (by assumption) _).mono ?_; rintro e w1 ⟨rfl, hww⟩; obtain rfl := hww.symm)
      go_ret
      exact ⟨by simp, later3 _ _ _ _⟩
    · rw [decide_eq_false h3]
      go_enter Try.func88, Try.ntmps88
      go_wp2_with (go_at_call 67; refine (lin_b (by assumption) _).mono ?_; rintro e w1 ⟨rfl, hww⟩; obtain rfl := hww.symm)
      go_ret
      exact ⟨by simp, later3 _ _ _ _⟩
  · show Calls _ _ _ _ fun e w' => e = .returned (.bool (inB n 0 (7 - 1))) ∧ _
    rw [inB_pl]
    generalize hpp : plB n 7 = bb
    go_enter Try.func88, Try.ntmps88
    go_wp2_with (go_at_call 67; refine (lin_b (by assumption) _).mono ?_; rintro e w1 ⟨rfl, hww⟩; obtain rfl := hww.symm)
    go_ret
    exact ⟨rfl, later3 _ _ _ _⟩
  · show Calls _ _ _ _ fun e w' => e = .returned (.bool (inB n 0 (6 - 1))) ∧ _
    rw [inB_pl]
    generalize hpp : plB n 6 = bb
    go_enter Try.func88, Try.ntmps88
    go_wp2_with (go_at_call 67; refine (lin_b (by assumption) _).mono ?_; rintro e w1 ⟨rfl, hww⟩; obtain rfl := hww.symm)
    go_ret
    exact ⟨rfl, later3 _ _ _ _⟩
  · show Calls _ _ _ _ fun e w' => e = .returned (.bool (inB n 0 ((sn : Int) - 1))) ∧ _
    rw [inB_pl]
    generalize hpp : plB n (sn : Int) = bb
    go_enter Try.func88, Try.ntmps88
    go_wp2_with (go_at_call 67; refine (lin_b (by assumption) _).mono ?_; rintro e w1 ⟨rfl, hww⟩; obtain rfl := hww.symm)
    go_ret
    exact ⟨rfl, later3 _ _ _ _⟩
  · show Calls _ _ _ _ fun e w' => e = .returned (.bool (inB n 0 (3 - 1))) ∧ _
    rw [inB_pl]
    generalize hpp : plB n 3 = bb
    go_enter Try.func88, Try.ntmps88
    go_wp2_with (go_at_call 67; refine (lin_b (by assumption) _).mono ?_; rintro e w1 ⟨rfl, hww⟩; obtain rfl := hww.symm)
    go_ret
    exact ⟨rfl, later3 _ _ _ _⟩
  · show Calls _ _ _ _ fun e w' => e = .returned (.bool (inB n 0 (5 - 1))) ∧ _
    rw [inB_pl]
    generalize hpp : plB n 5 = bb
    go_enter Try.func88, Try.ntmps88
    go_wp2_with (go_at_call 67; refine (lin_b (by assumption) _).mono ?_; rintro e w1 ⟨rfl, hww⟩; obtain rfl := hww.symm)
    go_ret
    exact ⟨rfl, later3 _ _ _ _⟩
  · show Calls _ _ _ _ fun e w' => e = .returned (.bool (inB n 0 (5 - 1))) ∧ _
    rw [inB_pl]
    generalize hpp : plB n 5 = bb
    go_enter Try.func88, Try.ntmps88
    go_wp2_with (go_at_call 67; refine (lin_b (by assumption) _).mono ?_; rintro e w1 ⟨rfl, hww⟩; obtain rfl := hww.symm)
    go_ret
    exact ⟨rfl, later3 _ _ _ _⟩
  · show Calls _ _ _ _ fun e w' => e = .returned (.bool (inB n 0 (2 - 1))) ∧ _
    rw [inB_pl]
    generalize hpp : plB n 2 = bb
    go_enter Try.func88, Try.ntmps88
    go_wp2_with (go_at_call 67; refine (lin_b (by assumption) _).mono ?_; rintro e w1 ⟨rfl, hww⟩; obtain rfl := hww.symm)
    go_ret
    exact ⟨rfl, later3 _ _ _ _⟩
  · show Calls _ _ _ _ fun e w' => e = .returned (.bool (inB n 0 (2 - 1))) ∧ _
    rw [inB_pl]
    generalize hpp : plB n 2 = bb
    go_enter Try.func88, Try.ntmps88
    go_wp2_with (go_at_call 67; refine (lin_b (by assumption) _).mono ?_; rintro e w1 ⟨rfl, hww⟩; obtain rfl := hww.symm)
    go_ret
    exact ⟨rfl, later3 _ _ _ _⟩
  · show Calls _ _ _ _ fun e w' => e = .returned (.bool (inB n 0 (4 - 1))) ∧ _
    rw [inB_pl]
    generalize hpp : plB n 4 = bb
    go_enter Try.func88, Try.ntmps88
    go_wp2_with (go_at_call 67; refine (lin_b (by assumption) _).mono ?_; rintro e w1 ⟨rfl, hww⟩; obtain rfl := hww.symm)
    go_ret
    exact ⟨rfl, later3 _ _ _ _⟩
  · show Calls _ _ _ _ fun e w' => e = .returned (.bool (inB n 0 ((cn : Int) - 1))) ∧ _
    rw [inB_pl]
    generalize hpp : plB n (cn : Int) = bb
    go_enter Try.func88, Try.ntmps88
    go_wp2_with (go_at_call 67; refine (lin_b (by assumption) _).mono ?_; rintro e w1 ⟨rfl, hww⟩; obtain rfl := hww.symm)
    go_ret
    exact ⟨rfl, later3 _ _ _ _⟩
  · show Calls _ _ _ _ fun e w' => e = .returned (.bool (inB n 0 ((ni : Int) - 1))) ∧ _
    rw [inB_pl]
    generalize hpp : plB n (ni : Int) = bb
    go_enter Try.func88, Try.ntmps88
    go_wp2_with (go_at_call 67; refine (lin_b (by assumption) _).mono ?_; rintro e w1 ⟨rfl, hww⟩; obtain rfl := hww.symm)
    go_ret
    exact ⟨rfl, later3 _ _ _ _⟩
  · show Calls _ _ _ _ fun e w' => e = .returned (.bool (inB n 0 ((ni : Int) - 1))) ∧ _
    rw [inB_pl]
    generalize hpp : plB n (ni : Int) = bb
    go_enter Try.func88, Try.ntmps88
    go_wp2_with (go_at_call 67; refine (lin_b (by assumption) _).mono ?_; rintro e w1 ⟨rfl, hww⟩; obtain rfl := hww.symm)
    go_ret
    exact ⟨rfl, later3 _ _ _ _⟩
  · have e : bnd sn cn fr ni op = (0, 0) := by
      unfold bnd
      rw [if_neg n0, if_neg n2, if_neg n3, if_neg n4, if_neg n5, if_neg n10, if_neg n11, if_neg n16, if_neg n17, if_neg n21, if_neg n24, if_neg n22, if_neg n23, if_neg n26, if_neg n27]
    rw [e]
    show Calls _ _ _ _ fun e w' => e = .returned (.bool (inB n 0 0)) ∧ _
    rw [inB_zero]
    have m0 : (op == 0) = false := by simpa using n0
    have m2 : (op == 2) = false := by simpa using n2
    have m3 : (op == 3) = false := by simpa using n3
    have m4 : (op == 4) = false := by simpa using n4
    have m5 : (op == 5) = false := by simpa using n5
    have m10 : (op == 10) = false := by simpa using n10
    have m11 : (op == 11) = false := by simpa using n11
    have m16 : (op == 16) = false := by simpa using n16
    have m17 : (op == 17) = false := by simpa using n17
    have m21 : (op == 21) = false := by simpa using n21
    have m24 : (op == 24) = false := by simpa using n24
    have m22 : (op == 22) = false := by simpa using n22
    have m23 : (op == 23) = false := by simpa using n23
    have m26 : (op == 26) = false := by simpa using n26
    have m27 : (op == 27) = false := by simpa using n27
    go_enter Try.func88, Try.ntmps88
    go_wp2_with (go_at_call 67; refine (lin_b (by assumption) _).mono ?_; rintro e w1 ⟨rfl, hww⟩; obtain rfl := hww.symm)
    go_ret
    exact ⟨by first | rfl | simp, later3 _ _ _ _⟩
end Go.Proofs.Ytlfkjjnhlkaipaa
