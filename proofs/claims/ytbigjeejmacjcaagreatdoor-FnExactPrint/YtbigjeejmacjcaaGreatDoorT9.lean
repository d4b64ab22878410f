/- Types, forms and what fits them, by the model and by the program. -/
import Derived.Test.YtbigjeejmacjcaaGreatDoorT8
import Derived.Test.YtbigjeejmacjcaaGreatDoorW3
import Derived.Test.YtbigjeejmacjcaaGreatDoorW5
namespace Go.Proofs.YtbigjeejmacjcaaGreatDoor
open Go.RowKit

/-- A type over so many structs; none only where it may be. -/
def tyB (k n s : Int) (no : Bool) : Bool := if k = 0 then no && (n == 0) else if k = 1 ∨ k = 2 ∨ k = 4 ∨ k = 5 then n == 0 else if k = 3 ∨ k = 6 then decide (0 ≤ n) && decide (n < s) else false
theorem neb {a b : Int} (h : a ≠ b) : (a == b) = false := by rw [beq_eq_false_iff_ne]; exact h
theorem decN (k : Int) : (k = 0 ∨ k = 1 ∨ k = 2 ∨ k = 3 ∨ k = 4 ∨ k = 5 ∨ k = 6) ∨ (k ≠ 0 ∧ k ≠ 1 ∧ k ≠ 2 ∧ k ≠ 3 ∧ k ≠ 4 ∧ k ≠ 5 ∧ k ≠ 6) := by omega
theorem place_any (n c : Int) (w : World) : Calls Tryz.prog 85 #[.int .i64 n, .int .i64 c] w fun e w' => e = .returned (.bool (decide (0 ≤ n) && decide (n < c))) ∧ w' = w := by
  by_cases h : 0 ≤ n
  · rw [decide_eq_true h]
    go_enter Tryz.func85, Tryz.ntmps85
    go_wp2
    go_ret
    exact ⟨by simp, rfl⟩
  · rw [decide_eq_false h]
    go_enter Tryz.func85, Tryz.ntmps85
    go_wp2
    go_ret
    exact ⟨by simp, rfl⟩
set_option maxHeartbeats 2000000 in
theorem ty_any (tk tn s : Int) (no : Bool) (w : World) : Calls Tryz.prog 51 #[.agg #[.int .i64 tk, .int .i64 tn], .int .i64 s, .bool no] w fun e w' => e = .returned (.bool (tyB tk tn s no)) ∧ Later w w' := by
  rcases decN tk with (rfl | rfl | rfl | rfl | rfl | rfl | rfl) | ⟨n0, n1, n2, n3, n4, n5, n6⟩
  · show Calls _ _ _ _ fun e w' => e = .returned (.bool (no && (tn == 0))) ∧ _
    cases no
    all_goals
      go_enter Tryz.func51, Tryz.ntmps51
      go_wp2_with fail
      go_ret
      exact ⟨by first | rfl | simp, later1 _ _⟩
  · show Calls _ _ _ _ fun e w' => e = .returned (.bool (tn == 0)) ∧ _
    go_enter Tryz.func51, Tryz.ntmps51
    go_wp2_with fail
    go_ret
    exact ⟨by first | rfl | simp, later1 _ _⟩
  · show Calls _ _ _ _ fun e w' => e = .returned (.bool (tn == 0)) ∧ _
    go_enter Tryz.func51, Tryz.ntmps51
    go_wp2_with fail
    go_ret
    exact ⟨by first | rfl | simp, later1 _ _⟩
  · by_cases q : 0 ≤ tn
    · have e : tyB 3 tn s no = decide (tn < s) := by show (decide (0 ≤ tn) && decide (tn < s)) = _; rw [decide_eq_true q]; rfl
      rw [e]
      go_enter Tryz.func51, Tryz.ntmps51
      go_wp2_with fail
      go_ret
      exact ⟨by first | rfl | simp, later1 _ _⟩
    · have e : tyB 3 tn s no = false := by show (decide (0 ≤ tn) && decide (tn < s)) = _; rw [decide_eq_false q]; rfl
      rw [e]
      go_enter Tryz.func51, Tryz.ntmps51
      go_wp2_with fail
      go_ret
      exact ⟨by first | rfl | simp, later1 _ _⟩
  · show Calls _ _ _ _ fun e w' => e = .returned (.bool (tn == 0)) ∧ _
    go_enter Tryz.func51, Tryz.ntmps51
    go_wp2_with fail
    go_ret
    exact ⟨by first | rfl | simp, later1 _ _⟩
  · show Calls _ _ _ _ fun e w' => e = .returned (.bool (tn == 0)) ∧ _
    go_enter Tryz.func51, Tryz.ntmps51
    go_wp2_with fail
    go_ret
    exact ⟨by first | rfl | simp, later1 _ _⟩
  · by_cases q : 0 ≤ tn
    · have e : tyB 6 tn s no = decide (tn < s) := by show (decide (0 ≤ tn) && decide (tn < s)) = _; rw [decide_eq_true q]; rfl
      rw [e]
      go_enter Tryz.func51, Tryz.ntmps51
      go_wp2_with fail
      go_ret
      exact ⟨by first | rfl | simp, later1 _ _⟩
    · have e : tyB 6 tn s no = false := by show (decide (0 ≤ tn) && decide (tn < s)) = _; rw [decide_eq_false q]; rfl
      rw [e]
      go_enter Tryz.func51, Tryz.ntmps51
      go_wp2_with fail
      go_ret
      exact ⟨by first | rfl | simp, later1 _ _⟩
  · have e : tyB tk tn s no = false := by unfold tyB; rw [if_neg n0, if_neg (by omega), if_neg (by omega)]
    rw [e]
    have e0 := neb n0
    have e1 := neb n1
    have e2 := neb n2
    have e3 := neb n3
    have e4 := neb n4
    have e5 := neb n5
    have e6 := neb n6
    clear e n0 n1 n2 n3 n4 n5 n6
    go_enter Tryz.func51, Tryz.ntmps51
    go_wp2_with fail
    go_ret
    exact ⟨by first | rfl | simp, later1 _ _⟩
set_option maxHeartbeats 2000000 in
theorem ity_any (tk tn s : Int) (w : World) : Calls Tryz.prog 62 #[.agg #[.int .i64 tk, .int .i64 tn], .int .i64 s] w fun e w' => e = .returned (.bool (tyB tk tn s false)) ∧ Later w w' := by
  rcases decN tk with (rfl | rfl | rfl | rfl | rfl | rfl | rfl) | ⟨n0, n1, n2, n3, n4, n5, n6⟩
  · show Calls _ _ _ _ fun e w' => e = .returned (.bool (false)) ∧ _
    go_enter Tryz.func62, Tryz.ntmps62
    go_wp2_with (go_at_call 85; refine (place_any _ _ _).mono ?_; rintro e w1 ⟨rfl, hww⟩; obtain rfl := hww.symm)
    go_ret
    exact ⟨by first | rfl | simp, later1 _ _⟩
  · show Calls _ _ _ _ fun e w' => e = .returned (.bool (tn == 0)) ∧ _
    go_enter Tryz.func62, Tryz.ntmps62
    go_wp2_with (go_at_call 85; refine (place_any _ _ _).mono ?_; rintro e w1 ⟨rfl, hww⟩; obtain rfl := hww.symm)
    go_ret
    exact ⟨by first | rfl | simp, later1 _ _⟩
  · show Calls _ _ _ _ fun e w' => e = .returned (.bool (tn == 0)) ∧ _
    go_enter Tryz.func62, Tryz.ntmps62
    go_wp2_with (go_at_call 85; refine (place_any _ _ _).mono ?_; rintro e w1 ⟨rfl, hww⟩; obtain rfl := hww.symm)
    go_ret
    exact ⟨by first | rfl | simp, later1 _ _⟩
  · show Calls _ _ _ _ fun e w' => e = .returned (.bool (decide (0 ≤ tn) && decide (tn < s))) ∧ _
    go_enter Tryz.func62, Tryz.ntmps62
    go_wp2_with (go_at_call 85; refine (place_any _ _ _).mono ?_; rintro e w1 ⟨rfl, hww⟩; obtain rfl := hww.symm)
    go_ret
    exact ⟨by first | rfl | simp, later1 _ _⟩
  · show Calls _ _ _ _ fun e w' => e = .returned (.bool (tn == 0)) ∧ _
    go_enter Tryz.func62, Tryz.ntmps62
    go_wp2_with (go_at_call 85; refine (place_any _ _ _).mono ?_; rintro e w1 ⟨rfl, hww⟩; obtain rfl := hww.symm)
    go_ret
    exact ⟨by first | rfl | simp, later1 _ _⟩
  · show Calls _ _ _ _ fun e w' => e = .returned (.bool (tn == 0)) ∧ _
    go_enter Tryz.func62, Tryz.ntmps62
    go_wp2_with (go_at_call 85; refine (place_any _ _ _).mono ?_; rintro e w1 ⟨rfl, hww⟩; obtain rfl := hww.symm)
    go_ret
    exact ⟨by first | rfl | simp, later1 _ _⟩
  · show Calls _ _ _ _ fun e w' => e = .returned (.bool (decide (0 ≤ tn) && decide (tn < s))) ∧ _
    go_enter Tryz.func62, Tryz.ntmps62
    go_wp2_with (go_at_call 85; refine (place_any _ _ _).mono ?_; rintro e w1 ⟨rfl, hww⟩; obtain rfl := hww.symm)
    go_ret
    exact ⟨by first | rfl | simp, later1 _ _⟩
  · have e : tyB tk tn s false = false := by unfold tyB; rw [if_neg n0, if_neg (by omega), if_neg (by omega)]
    rw [e]
    have e0 := neb n0
    have e1 := neb n1
    have e2 := neb n2
    have e3 := neb n3
    have e4 := neb n4
    have e5 := neb n5
    have e6 := neb n6
    clear e n0 n1 n2 n3 n4 n5 n6
    go_enter Tryz.func62, Tryz.ntmps62
    go_wp2_with (go_at_call 85; refine (place_any _ _ _).mono ?_; rintro e w1 ⟨rfl, hww⟩; obtain rfl := hww.symm)
    go_ret
    exact ⟨by first | rfl | simp, later1 _ _⟩
/-- A type of lists. -/
def tylB (k n s : Int) : Bool := decide (4 ≤ k) && tyB k n s false
theorem ilist_any (tk tn s : Int) (w : World) : Calls Tryz.prog 123 #[.agg #[.int .i64 tk, .int .i64 tn], .int .i64 s] w fun e w' => e = .returned (.bool (tylB tk tn s)) ∧ Later w w' := by
  unfold tylB
  have hE := fun w => ity_any tk tn s w
  by_cases h : 4 ≤ tk
  · rw [decide_eq_true h]
    go_enter Tryz.func123, Tryz.ntmps123
    go_wp2_with (go_at_call 62; refine (hE _).mono ?_; rintro e w1 ⟨rfl, l1⟩)
    go_ret
    exact ⟨rfl, (later1 _ _).trans l1⟩
  · rw [decide_eq_false h]
    go_enter Tryz.func123, Tryz.ntmps123
    go_wp2_with (go_at_call 62; refine (hE _).mono ?_; rintro e w1 ⟨rfl, l1⟩)
    go_ret
    exact ⟨rfl, later1 _ _⟩

theorem cb_fb' {n : Int} (hn : InR n) (h : nanB (fb n) = false) : cb (fb n) = n := by
  rw [cb_num h]
  unfold InR at hn
  have := fb_wrap n
  rw [IntKind.wrap_u64] at this
  unfold wrap64
  omega
/-- Bits that a float has. -/
def canon (n : Int) : Bool := if nanB (fb n) then n == 9221120237041090561 else true
theorem canon_eq {n : Int} (hn : InR n) : (cb (fb n) == n) = canon n := by
  unfold canon
  by_cases h : nanB (fb n) = true
  · rw [cb_nan h, if_pos h, Bool.eq_iff_iff, beq_iff_eq, beq_iff_eq]
    exact eq_comm
  · rw [cb_fb' hn (by simpa using h), if_neg h]
    simp
theorem bitsfloat_any (n : Int) (hn : InR n) (w : World) : ∃ x w1, Calls Tryz.prog 113 #[.int .i64 n] w (fun e w' => e = .returned (.float .f64 x) ∧ w' = w1) ∧ Later w w1 ∧
    Calls Tryz.prog 112 #[.float .f64 x] w1 (fun e w' => ∃ r, e = .returned (.int .i64 r) ∧ (r == n) = canon n ∧ w' = w1) := by
  by_cases h : nanB (fb n) = true
  · refine ⟨_, _, sfloat_nan n h w, Later.drew _, ?_⟩
    refine (sbits_any _ (nanOf_lt 0 0 w) _).mono ?_
    rintro e w' ⟨rfl, rfl⟩
    refine ⟨_, rfl, ?_, rfl⟩
    rw [cb_nan (nanOf_nan 0 0 w)]
    unfold canon
    rw [if_pos h, Bool.eq_iff_iff, beq_iff_eq, beq_iff_eq]
    exact eq_comm
  · have h' : nanB (fb n) = false := by simpa using h
    refine ⟨_, _, sfloat_num n h' w, Later.refl _, ?_⟩
    refine (sbits_any _ (fb_lt n) _).mono ?_
    rintro e w' ⟨rfl, rfl⟩
    exact ⟨_, rfl, canon_eq hn, rfl⟩
theorem icanon_any (n : Int) (hn : InR n) (w : World) : Calls Tryz.prog 122 #[.int .i64 n] w fun e w' => e = .returned (.bool (canon n)) ∧ w' = w := by
  have hq := canon_eq hn
  generalize canon n = cn at *
  have hF := float_any n w
  have hB := bits_any (fb n) w
  generalize cb (fb n) = r at *
  go_enter Tryz.func122, Tryz.ntmps122
  go_wp2_with (first | (go_at_call 134; refine hF.mono ?_; rintro e w1 ⟨rfl, hww⟩; obtain rfl := hww.symm) | (go_at_call 133; refine hB.mono ?_; rintro e w1 ⟨rfl, hww⟩; obtain rfl := hww.symm))
  go_ret
  exact ⟨rfl, rfl⟩

/-- What parts of a kind have: fewest and most kids, what N and Ty are, a name?, a body?, an else? -/
abbrev Form := Int × Int × Int × Int × Bool × Bool × Bool
def formV (f : Form) : Value := .agg #[.int .i64 f.1, .int .i64 f.2.1, .int .i64 f.2.2.1, .int .i64 f.2.2.2.1, .bool f.2.2.2.2.1, .bool f.2.2.2.2.2.1, .bool f.2.2.2.2.2.2]
def formE (k : Int) : Option Form := if k = 0 then some (0, 0, 1, 0, false, false, false) else if k = 1 then some (0, 0, 2, 0, false, false, false) else if k = 2 then some (0, 0, 3, 0, false, false, false) else if k = 3 then some (0, 0, 0, 0, true, false, false) else if k = 4 then some (0, 0, 3, 0, false, false, false) else if k = 5 then some (1, 1, 0, 2, false, false, false) else if k = 6 then some (0, 4, 0, 0, true, false, false) else if k = 7 then some (1, 1, 0, 0, true, false, false) else if k = 8 then some (2, 2, 0, 0, false, false, false) else if k = 9 then some (1, 1, 0, 0, false, false, false) else if k = 10 then some (2, 2, 4, 0, false, false, false) else if k = 11 then some (0, 0, 0, 0, false, false, false) else if k = 12 then some (1, 1, 0, 0, false, false, false) else if k = 13 then some (1, 1, 0, 0, false, false, false) else none
theorem formE_cases (k : Int) : (k = 0 ∨ k = 1 ∨ k = 2 ∨ k = 3 ∨ k = 4 ∨ k = 5 ∨ k = 6 ∨ k = 7 ∨ k = 8 ∨ k = 9 ∨ k = 10 ∨ k = 11 ∨ k = 12 ∨ k = 13) ∨ (k ≠ 0 ∧ k ≠ 1 ∧ k ≠ 2 ∧ k ≠ 3 ∧ k ≠ 4 ∧ k ≠ 5 ∧ k ≠ 6 ∧ k ≠ 7 ∧ k ≠ 8 ∧ k ≠ 9 ∧ k ≠ 10 ∧ k ≠ 11 ∧ k ≠ 12 ∧ k ≠ 13) := by omega
set_option maxRecDepth 20000 in
set_option maxHeartbeats 4000000 in
theorem iformE_any (k : Int) (w : World) : Calls Tryz.prog 124 #[.int .i64 k] w fun e w' => (∃ f, e = .returned (.tuple #[formV f, .bool (formE k).isSome]) ∧ ∀ g, formE k = some g → f = g) ∧ Later w w' := by
  rcases formE_cases k with (rfl | rfl | rfl | rfl | rfl | rfl | rfl | rfl | rfl | rfl | rfl | rfl | rfl | rfl) | ⟨n0, n1, n2, n3, n4, n5, n6, n7, n8, n9, n10, n11, n12, n13⟩
  · go_enter Tryz.func124, Tryz.ntmps124
    have hb := fun w : World => (show (Instr.build 150 #[(2, .int .i64 1)]).run Tryz.prog w = .ok (.agg #[.int .i64 0, .int .i64 0, .int .i64 1, .int .i64 0, .bool false, .bool false, .bool false]) w from run_build w 150 _ _ (by kernel_rfl))
    go_wp2_with fail
    exact bodyPost_ret (v := .tuple #[.agg #[.int .i64 0, .int .i64 0, .int .i64 1, .int .i64 0, .bool false, .bool false, .bool false], .bool true]) (by simp [results, Tryz.results124, go_sem]) rfl ⟨⟨(0, 0, 1, 0, false, false, false), rfl, fun g hg => by cases hg; rfl⟩, later1 _ _⟩
  · go_enter Tryz.func124, Tryz.ntmps124
    have hb := fun w : World => (show (Instr.build 150 #[(2, .int .i64 2)]).run Tryz.prog w = .ok (.agg #[.int .i64 0, .int .i64 0, .int .i64 2, .int .i64 0, .bool false, .bool false, .bool false]) w from run_build w 150 _ _ (by kernel_rfl))
    go_wp2_with fail
    exact bodyPost_ret (v := .tuple #[.agg #[.int .i64 0, .int .i64 0, .int .i64 2, .int .i64 0, .bool false, .bool false, .bool false], .bool true]) (by simp [results, Tryz.results124, go_sem]) rfl ⟨⟨(0, 0, 2, 0, false, false, false), rfl, fun g hg => by cases hg; rfl⟩, later1 _ _⟩
  · go_enter Tryz.func124, Tryz.ntmps124
    have hb := fun w : World => (show (Instr.build 150 #[(2, .int .i64 3)]).run Tryz.prog w = .ok (.agg #[.int .i64 0, .int .i64 0, .int .i64 3, .int .i64 0, .bool false, .bool false, .bool false]) w from run_build w 150 _ _ (by kernel_rfl))
    go_wp2_with fail
    exact bodyPost_ret (v := .tuple #[.agg #[.int .i64 0, .int .i64 0, .int .i64 3, .int .i64 0, .bool false, .bool false, .bool false], .bool true]) (by simp [results, Tryz.results124, go_sem]) rfl ⟨⟨(0, 0, 3, 0, false, false, false), rfl, fun g hg => by cases hg; rfl⟩, later1 _ _⟩
  · go_enter Tryz.func124, Tryz.ntmps124
    have hb := fun w : World => (show (Instr.build 150 #[(4, .bool true)]).run Tryz.prog w = .ok (.agg #[.int .i64 0, .int .i64 0, .int .i64 0, .int .i64 0, .bool true, .bool false, .bool false]) w from run_build w 150 _ _ (by kernel_rfl))
    go_wp2_with fail
    exact bodyPost_ret (v := .tuple #[.agg #[.int .i64 0, .int .i64 0, .int .i64 0, .int .i64 0, .bool true, .bool false, .bool false], .bool true]) (by simp [results, Tryz.results124, go_sem]) rfl ⟨⟨(0, 0, 0, 0, true, false, false), rfl, fun g hg => by cases hg; rfl⟩, later1 _ _⟩
  · go_enter Tryz.func124, Tryz.ntmps124
    have hb := fun w : World => (show (Instr.build 150 #[(2, .int .i64 3)]).run Tryz.prog w = .ok (.agg #[.int .i64 0, .int .i64 0, .int .i64 3, .int .i64 0, .bool false, .bool false, .bool false]) w from run_build w 150 _ _ (by kernel_rfl))
    go_wp2_with fail
    exact bodyPost_ret (v := .tuple #[.agg #[.int .i64 0, .int .i64 0, .int .i64 3, .int .i64 0, .bool false, .bool false, .bool false], .bool true]) (by simp [results, Tryz.results124, go_sem]) rfl ⟨⟨(0, 0, 3, 0, false, false, false), rfl, fun g hg => by cases hg; rfl⟩, later1 _ _⟩
  · go_enter Tryz.func124, Tryz.ntmps124
    have hb := fun w : World => (show (Instr.build 150 #[(0, .int .i64 1), (1, .int .i64 1), (3, .int .i64 2)]).run Tryz.prog w = .ok (.agg #[.int .i64 1, .int .i64 1, .int .i64 0, .int .i64 2, .bool false, .bool false, .bool false]) w from run_build w 150 _ _ (by kernel_rfl))
    go_wp2_with fail
    exact bodyPost_ret (v := .tuple #[.agg #[.int .i64 1, .int .i64 1, .int .i64 0, .int .i64 2, .bool false, .bool false, .bool false], .bool true]) (by simp [results, Tryz.results124, go_sem]) rfl ⟨⟨(1, 1, 0, 2, false, false, false), rfl, fun g hg => by cases hg; rfl⟩, later1 _ _⟩
  · go_enter Tryz.func124, Tryz.ntmps124
    have hb := fun w : World => (show (Instr.build 150 #[(1, .int .i64 4), (4, .bool true)]).run Tryz.prog w = .ok (.agg #[.int .i64 0, .int .i64 4, .int .i64 0, .int .i64 0, .bool true, .bool false, .bool false]) w from run_build w 150 _ _ (by kernel_rfl))
    go_wp2_with fail
    exact bodyPost_ret (v := .tuple #[.agg #[.int .i64 0, .int .i64 4, .int .i64 0, .int .i64 0, .bool true, .bool false, .bool false], .bool true]) (by simp [results, Tryz.results124, go_sem]) rfl ⟨⟨(0, 4, 0, 0, true, false, false), rfl, fun g hg => by cases hg; rfl⟩, later1 _ _⟩
  · go_enter Tryz.func124, Tryz.ntmps124
    have hb := fun w : World => (show (Instr.build 150 #[(0, .int .i64 1), (1, .int .i64 1), (4, .bool true)]).run Tryz.prog w = .ok (.agg #[.int .i64 1, .int .i64 1, .int .i64 0, .int .i64 0, .bool true, .bool false, .bool false]) w from run_build w 150 _ _ (by kernel_rfl))
    go_wp2_with fail
    exact bodyPost_ret (v := .tuple #[.agg #[.int .i64 1, .int .i64 1, .int .i64 0, .int .i64 0, .bool true, .bool false, .bool false], .bool true]) (by simp [results, Tryz.results124, go_sem]) rfl ⟨⟨(1, 1, 0, 0, true, false, false), rfl, fun g hg => by cases hg; rfl⟩, later1 _ _⟩
  · go_enter Tryz.func124, Tryz.ntmps124
    have hb := fun w : World => (show (Instr.build 150 #[(0, .int .i64 2), (1, .int .i64 2)]).run Tryz.prog w = .ok (.agg #[.int .i64 2, .int .i64 2, .int .i64 0, .int .i64 0, .bool false, .bool false, .bool false]) w from run_build w 150 _ _ (by kernel_rfl))
    go_wp2_with fail
    exact bodyPost_ret (v := .tuple #[.agg #[.int .i64 2, .int .i64 2, .int .i64 0, .int .i64 0, .bool false, .bool false, .bool false], .bool true]) (by simp [results, Tryz.results124, go_sem]) rfl ⟨⟨(2, 2, 0, 0, false, false, false), rfl, fun g hg => by cases hg; rfl⟩, later1 _ _⟩
  · go_enter Tryz.func124, Tryz.ntmps124
    have hb := fun w : World => (show (Instr.build 150 #[(0, .int .i64 1), (1, .int .i64 1)]).run Tryz.prog w = .ok (.agg #[.int .i64 1, .int .i64 1, .int .i64 0, .int .i64 0, .bool false, .bool false, .bool false]) w from run_build w 150 _ _ (by kernel_rfl))
    go_wp2_with fail
    exact bodyPost_ret (v := .tuple #[.agg #[.int .i64 1, .int .i64 1, .int .i64 0, .int .i64 0, .bool false, .bool false, .bool false], .bool true]) (by simp [results, Tryz.results124, go_sem]) rfl ⟨⟨(1, 1, 0, 0, false, false, false), rfl, fun g hg => by cases hg; rfl⟩, later1 _ _⟩
  · go_enter Tryz.func124, Tryz.ntmps124
    have hb := fun w : World => (show (Instr.build 150 #[(0, .int .i64 2), (1, .int .i64 2), (2, .int .i64 4)]).run Tryz.prog w = .ok (.agg #[.int .i64 2, .int .i64 2, .int .i64 4, .int .i64 0, .bool false, .bool false, .bool false]) w from run_build w 150 _ _ (by kernel_rfl))
    go_wp2_with fail
    exact bodyPost_ret (v := .tuple #[.agg #[.int .i64 2, .int .i64 2, .int .i64 4, .int .i64 0, .bool false, .bool false, .bool false], .bool true]) (by simp [results, Tryz.results124, go_sem]) rfl ⟨⟨(2, 2, 4, 0, false, false, false), rfl, fun g hg => by cases hg; rfl⟩, later1 _ _⟩
  · go_enter Tryz.func124, Tryz.ntmps124
    have hb := fun w : World => (show (Instr.build 150 #[]).run Tryz.prog w = .ok (.agg #[.int .i64 0, .int .i64 0, .int .i64 0, .int .i64 0, .bool false, .bool false, .bool false]) w from run_build w 150 _ _ (by kernel_rfl))
    go_wp2_with fail
    exact bodyPost_ret (v := .tuple #[.agg #[.int .i64 0, .int .i64 0, .int .i64 0, .int .i64 0, .bool false, .bool false, .bool false], .bool true]) (by simp [results, Tryz.results124, go_sem]) rfl ⟨⟨(0, 0, 0, 0, false, false, false), rfl, fun g hg => by cases hg; rfl⟩, later1 _ _⟩
  · go_enter Tryz.func124, Tryz.ntmps124
    have hb := fun w : World => (show (Instr.build 150 #[(0, .int .i64 1), (1, .int .i64 1)]).run Tryz.prog w = .ok (.agg #[.int .i64 1, .int .i64 1, .int .i64 0, .int .i64 0, .bool false, .bool false, .bool false]) w from run_build w 150 _ _ (by kernel_rfl))
    go_wp2_with fail
    exact bodyPost_ret (v := .tuple #[.agg #[.int .i64 1, .int .i64 1, .int .i64 0, .int .i64 0, .bool false, .bool false, .bool false], .bool true]) (by simp [results, Tryz.results124, go_sem]) rfl ⟨⟨(1, 1, 0, 0, false, false, false), rfl, fun g hg => by cases hg; rfl⟩, later1 _ _⟩
  · go_enter Tryz.func124, Tryz.ntmps124
    have hb := fun w : World => (show (Instr.build 150 #[(0, .int .i64 1), (1, .int .i64 1)]).run Tryz.prog w = .ok (.agg #[.int .i64 1, .int .i64 1, .int .i64 0, .int .i64 0, .bool false, .bool false, .bool false]) w from run_build w 150 _ _ (by kernel_rfl))
    go_wp2_with fail
    exact bodyPost_ret (v := .tuple #[.agg #[.int .i64 1, .int .i64 1, .int .i64 0, .int .i64 0, .bool false, .bool false, .bool false], .bool true]) (by simp [results, Tryz.results124, go_sem]) rfl ⟨⟨(1, 1, 0, 0, false, false, false), rfl, fun g hg => by cases hg; rfl⟩, later1 _ _⟩
  · have e : formE k = none := by unfold formE; rw [if_neg n0, if_neg n1, if_neg n2, if_neg n3, if_neg n4, if_neg n5, if_neg n6, if_neg n7, if_neg n8, if_neg n9, if_neg n10, if_neg n11, if_neg n12, if_neg n13]
    rw [e]
    have e0 := neb n0
    have e1 := neb n1
    have e2 := neb n2
    have e3 := neb n3
    have e4 := neb n4
    have e5 := neb n5
    have e6 := neb n6
    have e7 := neb n7
    have e8 := neb n8
    have e9 := neb n9
    have e10 := neb n10
    have e11 := neb n11
    have e12 := neb n12
    have e13 := neb n13
    clear e n0 n1 n2 n3 n4 n5 n6 n7 n8 n9 n10 n11 n12 n13
    go_enter Tryz.func124, Tryz.ntmps124
    go_wp2_with fail
    exact bodyPost_ret (v := .tuple #[.agg #[.int .i64 0, .int .i64 0, .int .i64 0, .int .i64 0, .bool false, .bool false, .bool false], .bool false]) (by simp [results, Tryz.results124, go_sem]) rfl ⟨⟨(0, 0, 0, 0, false, false, false), rfl, fun g hg => by cases hg⟩, later1 _ _⟩

def formS (k : Int) : Option Form := if k = 0 then some (0, 0, 0, 1, true, false, false) else if k = 1 then some (2, 2, 0, 0, false, false, false) else if k = 2 then some (1, 1, 0, 0, false, true, true) else if k = 3 then some (1, 1, 0, 0, false, true, false) else if k = 4 then some (0, 1, 0, 0, false, false, false) else if k = 5 then some (1, 1, 0, 0, false, false, false) else if k = 6 then some (1, 1, 0, 0, false, false, false) else if k = 7 then some (1, 1, 0, 0, false, false, false) else none
theorem formS_cases (k : Int) : (k = 0 ∨ k = 1 ∨ k = 2 ∨ k = 3 ∨ k = 4 ∨ k = 5 ∨ k = 6 ∨ k = 7) ∨ (k ≠ 0 ∧ k ≠ 1 ∧ k ≠ 2 ∧ k ≠ 3 ∧ k ≠ 4 ∧ k ≠ 5 ∧ k ≠ 6 ∧ k ≠ 7) := by omega
set_option maxRecDepth 20000 in
set_option maxHeartbeats 4000000 in
theorem iformS_any (k : Int) (w : World) : Calls Tryz.prog 101 #[.int .i64 k] w fun e w' => (∃ f, e = .returned (.tuple #[formV f, .bool (formS k).isSome]) ∧ ∀ g, formS k = some g → f = g) ∧ Later w w' := by
  rcases formS_cases k with (rfl | rfl | rfl | rfl | rfl | rfl | rfl | rfl) | ⟨n0, n1, n2, n3, n4, n5, n6, n7⟩
  · go_enter Tryz.func101, Tryz.ntmps101
    have hb := fun w : World => (show (Instr.build 150 #[(3, .int .i64 1), (4, .bool true)]).run Tryz.prog w = .ok (.agg #[.int .i64 0, .int .i64 0, .int .i64 0, .int .i64 1, .bool true, .bool false, .bool false]) w from run_build w 150 _ _ (by kernel_rfl))
    go_wp2_with fail
    exact bodyPost_ret (v := .tuple #[.agg #[.int .i64 0, .int .i64 0, .int .i64 0, .int .i64 1, .bool true, .bool false, .bool false], .bool true]) (by simp [results, Tryz.results101, go_sem]) rfl ⟨⟨(0, 0, 0, 1, true, false, false), rfl, fun g hg => by cases hg; rfl⟩, later1 _ _⟩
  · go_enter Tryz.func101, Tryz.ntmps101
    have hb := fun w : World => (show (Instr.build 150 #[(0, .int .i64 2), (1, .int .i64 2)]).run Tryz.prog w = .ok (.agg #[.int .i64 2, .int .i64 2, .int .i64 0, .int .i64 0, .bool false, .bool false, .bool false]) w from run_build w 150 _ _ (by kernel_rfl))
    go_wp2_with fail
    exact bodyPost_ret (v := .tuple #[.agg #[.int .i64 2, .int .i64 2, .int .i64 0, .int .i64 0, .bool false, .bool false, .bool false], .bool true]) (by simp [results, Tryz.results101, go_sem]) rfl ⟨⟨(2, 2, 0, 0, false, false, false), rfl, fun g hg => by cases hg; rfl⟩, later1 _ _⟩
  · go_enter Tryz.func101, Tryz.ntmps101
    have hb := fun w : World => (show (Instr.build 150 #[(0, .int .i64 1), (1, .int .i64 1), (5, .bool true), (6, .bool true)]).run Tryz.prog w = .ok (.agg #[.int .i64 1, .int .i64 1, .int .i64 0, .int .i64 0, .bool false, .bool true, .bool true]) w from run_build w 150 _ _ (by kernel_rfl))
    go_wp2_with fail
    exact bodyPost_ret (v := .tuple #[.agg #[.int .i64 1, .int .i64 1, .int .i64 0, .int .i64 0, .bool false, .bool true, .bool true], .bool true]) (by simp [results, Tryz.results101, go_sem]) rfl ⟨⟨(1, 1, 0, 0, false, true, true), rfl, fun g hg => by cases hg; rfl⟩, later1 _ _⟩
  · go_enter Tryz.func101, Tryz.ntmps101
    have hb := fun w : World => (show (Instr.build 150 #[(0, .int .i64 1), (1, .int .i64 1), (5, .bool true)]).run Tryz.prog w = .ok (.agg #[.int .i64 1, .int .i64 1, .int .i64 0, .int .i64 0, .bool false, .bool true, .bool false]) w from run_build w 150 _ _ (by kernel_rfl))
    go_wp2_with fail
    exact bodyPost_ret (v := .tuple #[.agg #[.int .i64 1, .int .i64 1, .int .i64 0, .int .i64 0, .bool false, .bool true, .bool false], .bool true]) (by simp [results, Tryz.results101, go_sem]) rfl ⟨⟨(1, 1, 0, 0, false, true, false), rfl, fun g hg => by cases hg; rfl⟩, later1 _ _⟩
  · go_enter Tryz.func101, Tryz.ntmps101
    have hb := fun w : World => (show (Instr.build 150 #[(1, .int .i64 1)]).run Tryz.prog w = .ok (.agg #[.int .i64 0, .int .i64 1, .int .i64 0, .int .i64 0, .bool false, .bool false, .bool false]) w from run_build w 150 _ _ (by kernel_rfl))
    go_wp2_with fail
    exact bodyPost_ret (v := .tuple #[.agg #[.int .i64 0, .int .i64 1, .int .i64 0, .int .i64 0, .bool false, .bool false, .bool false], .bool true]) (by simp [results, Tryz.results101, go_sem]) rfl ⟨⟨(0, 1, 0, 0, false, false, false), rfl, fun g hg => by cases hg; rfl⟩, later1 _ _⟩
  · go_enter Tryz.func101, Tryz.ntmps101
    have hb := fun w : World => (show (Instr.build 150 #[(0, .int .i64 1), (1, .int .i64 1)]).run Tryz.prog w = .ok (.agg #[.int .i64 1, .int .i64 1, .int .i64 0, .int .i64 0, .bool false, .bool false, .bool false]) w from run_build w 150 _ _ (by kernel_rfl))
    go_wp2_with fail
    exact bodyPost_ret (v := .tuple #[.agg #[.int .i64 1, .int .i64 1, .int .i64 0, .int .i64 0, .bool false, .bool false, .bool false], .bool true]) (by simp [results, Tryz.results101, go_sem]) rfl ⟨⟨(1, 1, 0, 0, false, false, false), rfl, fun g hg => by cases hg; rfl⟩, later1 _ _⟩
  · go_enter Tryz.func101, Tryz.ntmps101
    have hb := fun w : World => (show (Instr.build 150 #[(0, .int .i64 1), (1, .int .i64 1)]).run Tryz.prog w = .ok (.agg #[.int .i64 1, .int .i64 1, .int .i64 0, .int .i64 0, .bool false, .bool false, .bool false]) w from run_build w 150 _ _ (by kernel_rfl))
    go_wp2_with fail
    exact bodyPost_ret (v := .tuple #[.agg #[.int .i64 1, .int .i64 1, .int .i64 0, .int .i64 0, .bool false, .bool false, .bool false], .bool true]) (by simp [results, Tryz.results101, go_sem]) rfl ⟨⟨(1, 1, 0, 0, false, false, false), rfl, fun g hg => by cases hg; rfl⟩, later1 _ _⟩
  · go_enter Tryz.func101, Tryz.ntmps101
    have hb := fun w : World => (show (Instr.build 150 #[(0, .int .i64 1), (1, .int .i64 1)]).run Tryz.prog w = .ok (.agg #[.int .i64 1, .int .i64 1, .int .i64 0, .int .i64 0, .bool false, .bool false, .bool false]) w from run_build w 150 _ _ (by kernel_rfl))
    go_wp2_with fail
    exact bodyPost_ret (v := .tuple #[.agg #[.int .i64 1, .int .i64 1, .int .i64 0, .int .i64 0, .bool false, .bool false, .bool false], .bool true]) (by simp [results, Tryz.results101, go_sem]) rfl ⟨⟨(1, 1, 0, 0, false, false, false), rfl, fun g hg => by cases hg; rfl⟩, later1 _ _⟩
  · have e : formS k = none := by unfold formS; rw [if_neg n0, if_neg n1, if_neg n2, if_neg n3, if_neg n4, if_neg n5, if_neg n6, if_neg n7]
    rw [e]
    have e0 := neb n0
    have e1 := neb n1
    have e2 := neb n2
    have e3 := neb n3
    have e4 := neb n4
    have e5 := neb n5
    have e6 := neb n6
    have e7 := neb n7
    clear e n0 n1 n2 n3 n4 n5 n6 n7
    go_enter Tryz.func101, Tryz.ntmps101
    go_wp2_with fail
    exact bodyPost_ret (v := .tuple #[.agg #[.int .i64 0, .int .i64 0, .int .i64 0, .int .i64 0, .bool false, .bool false, .bool false], .bool false]) (by simp [results, Tryz.results101, go_sem]) rfl ⟨⟨(0, 0, 0, 0, false, false, false), rfl, fun g hg => by cases hg⟩, later1 _ _⟩

end Go.Proofs.YtbigjeejmacjcaaGreatDoor
