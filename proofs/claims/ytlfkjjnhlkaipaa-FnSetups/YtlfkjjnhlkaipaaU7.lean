/- SetupOk of both sides. -/
import Derived.Test.YtlfkjjnhlkaipaaU6
import Derived.Test.YtlfkjjnhlkaipaaG1
namespace Go.Proofs.Ytlfkjjnhlkaipaa
open Go.RowKit

def mrB (n : Nat) (f : Int) : Bool := decide ((n : Int) ≤ 100) && (decide (0 ≤ f) && decide (f ≤ 200000))
def seB (x : Se) : Bool := inB x.half 8 4000 && (inB x.stack 16 2000 && (mrB x.input.length x.fuel && decide ((x.oracle.length : Int) ≤ 2000)))
theorem mayrun_b {a : Option Addr} {n c : Nat} {f : Int} {b : Bool} (hb : mrB n f = b) (w : World) : Calls Try.prog 23 #[.slice a n c, .int .i64 f] w fun e w' => e = .returned (.bool b) ∧ w' = w := by
  subst hb
  unfold mrB
  by_cases h : (n : Int) ≤ 100
  · rw [decide_eq_true h]
    by_cases h2 : 0 ≤ f
    · rw [decide_eq_true h2]
      go_enter Try.func23, Try.ntmps23
      go_wp2
      go_ret
      exact ⟨by simp, rfl⟩
    · rw [decide_eq_false h2]
      go_enter Try.func23, Try.ntmps23
      go_wp2
      go_ret
      exact ⟨by simp, rfl⟩
  · rw [decide_eq_false h]
    go_enter Try.func23, Try.ntmps23
    go_wp2
    go_ret
    exact ⟨by simp, rfl⟩
set_option maxHeartbeats 1000000 in
theorem isetup_b (x : Se) (v0 v1 : Value) (w : World) (h0 : RdL w 1 v0 (In.dats x.input)) (h1 : RdL w 1 v1 (In.dats x.oracle)) {b : Bool} (hb : seB x = b) :
    Calls Try.prog 7 #[.agg #[.int .i64 x.half, .int .i64 x.stack, v0, .int .i64 x.fuel, v1]] w fun e w' => e = .returned (.bool b) ∧ Later w w' := by
  obtain ⟨a0, p0, rfl, _⟩ := In.slice h0
  obtain ⟨a1, p1, rfl, _⟩ := In.slice h1
  subst hb
  unfold seB
  clear h0 h1
  generalize x.half = zh at *
  generalize x.stack = zs at *
  generalize x.fuel = zf at *
  generalize x.input.length = ni at *
  generalize x.oracle.length = no at *
  cases e1 : inB zh 8 4000 with
  | false =>
    rw [Bool.false_and]
    go_enter Try.func7, Try.ntmps7
    go_wp2_with fail
    refine (isin_b e1 _).mono ?_
    rintro e w1 ⟨rfl, rfl⟩
    go_wp2_with fail
    go_ret
    exact ⟨rfl, later1 _ _⟩
  | true =>
    rw [Bool.true_and]
    cases e2 : inB zs 16 2000 with
    | false =>
      rw [Bool.false_and]
      go_enter Try.func7, Try.ntmps7
      go_wp2_with fail
      refine (isin_b e1 _).mono ?_
      rintro e w1 ⟨rfl, rfl⟩
      go_wp2_with fail
      refine (isin_b e2 _).mono ?_
      rintro e w1 ⟨rfl, rfl⟩
      go_wp2_with fail
      go_ret
      exact ⟨rfl, later1 _ _⟩
    | true =>
      rw [Bool.true_and]
      cases e3 : mrB ni zf with
      | false =>
        rw [Bool.false_and]
        go_enter Try.func7, Try.ntmps7
        go_wp2_with fail
        refine (isin_b e1 _).mono ?_
        rintro e w1 ⟨rfl, rfl⟩
        go_wp2_with fail
        refine (isin_b e2 _).mono ?_
        rintro e w1 ⟨rfl, rfl⟩
        go_wp2_with fail
        refine (mayrun_b e3 _).mono ?_
        rintro e w1 ⟨rfl, rfl⟩
        go_wp2_with fail
        go_ret
        exact ⟨rfl, later1 _ _⟩
      | true =>
        rw [Bool.true_and]
        go_enter Try.func7, Try.ntmps7
        go_wp2_with fail
        refine (isin_b e1 _).mono ?_
        rintro e w1 ⟨rfl, rfl⟩
        go_wp2_with fail
        refine (isin_b e2 _).mono ?_
        rintro e w1 ⟨rfl, rfl⟩
        go_wp2_with fail
        refine (mayrun_b e3 _).mono ?_
        rintro e w1 ⟨rfl, rfl⟩
        go_wp2_with fail
        go_ret
        exact ⟨rfl, later1 _ _⟩
set_option maxHeartbeats 2000000 in
theorem ssetup_b (x : Se) (v0 v1 : Value) (w : World) (h0 : RdL w 1 v0 (In.dats x.input)) (h1 : RdL w 1 v1 (In.dats x.oracle)) {b : Bool} (hb : seB x = b) :
    Calls Try.prog 17 #[.agg #[.int .i64 x.half, .int .i64 x.stack, v0, .int .i64 x.fuel, v1]] w fun e w' => e = .returned (.bool b) ∧ Later w w' := by
  obtain ⟨a0, p0, rfl, _⟩ := In.slice h0
  obtain ⟨a1, p1, rfl, _⟩ := In.slice h1
  subst hb
  have HB : Hid (∀ zh zs zf : Int, ∀ ni no : Nat, x.half = zh → x.stack = zs → x.fuel = zf → x.input.length = ni → x.oracle.length = no → seB x = (inB zh 8 4000 && (inB zs 16 2000 && (mrB ni zf && decide ((no : Int) ≤ 2000))))) := fun _ _ _ _ _ e1 e2 e3 e4 e5 => by unfold seB; rw [e1, e2, e3, e4, e5]
  have HB2 := HB.out _ _ _ _ _ rfl rfl rfl rfl rfl
  rw [HB2]
  clear h0 h1 HB HB2
  generalize x.half = zh at *
  generalize x.stack = zs at *
  generalize x.fuel = zf at *
  generalize x.input.length = ni at *
  generalize x.oracle.length = no at *
  unfold inB mrB
  by_cases c0 : zh < 8
  · have d : decide (8 ≤ zh) = false := decide_eq_false (by omega)
    rw [d]
    clear d
    simp only [Bool.false_and]
    go_enter Try.func17, Try.ntmps17
    go_wp2_with fail
    go_ret
    exact ⟨by first | rfl | simp [*] | (simp; omega), later1 _ _⟩
  have d0 : decide (8 ≤ zh) = true := decide_eq_true (by omega)
  rw [d0]
  clear d0
  by_cases c1 : 4000 < zh
  · have d : decide (zh ≤ 4000) = false := decide_eq_false (by omega)
    rw [d]
    clear d
    simp only [Bool.false_and, Bool.and_false]
    go_enter Try.func17, Try.ntmps17
    go_wp2_with fail
    go_ret
    exact ⟨by first | rfl | simp [*] | (simp; omega), later1 _ _⟩
  have d1 : decide (zh ≤ 4000) = true := decide_eq_true (by omega)
  rw [d1]
  clear d1
  by_cases c2 : zs < 16
  · have d : decide (16 ≤ zs) = false := decide_eq_false (by omega)
    rw [d]
    clear d
    simp only [Bool.false_and, Bool.and_false]
    go_enter Try.func17, Try.ntmps17
    go_wp2_with fail
    go_ret
    exact ⟨by first | rfl | simp [*] | (simp; omega), later1 _ _⟩
  have d2 : decide (16 ≤ zs) = true := decide_eq_true (by omega)
  rw [d2]
  clear d2
  by_cases c3 : 2000 < zs
  · have d : decide (zs ≤ 2000) = false := decide_eq_false (by omega)
    rw [d]
    clear d
    simp only [Bool.false_and, Bool.and_false]
    go_enter Try.func17, Try.ntmps17
    go_wp2_with fail
    go_ret
    exact ⟨by first | rfl | simp [*] | (simp; omega), later1 _ _⟩
  have d3 : decide (zs ≤ 2000) = true := decide_eq_true (by omega)
  rw [d3]
  clear d3
  simp only [Bool.true_and]
  by_cases f0 : (ni : Int) ≤ 100
  rotate_left
  · rw [decide_eq_false f0]
    simp only [Bool.false_and]
    go_enter Try.func17, Try.ntmps17
    go_wp2_with fail
    go_ret
    exact ⟨by first | rfl | simp [*] | (simp; omega), later1 _ _⟩
  rw [decide_eq_true f0]
  simp only [Bool.true_and]
  by_cases f1 : 0 ≤ zf
  rotate_left
  · rw [decide_eq_false f1]
    simp only [Bool.false_and]
    go_enter Try.func17, Try.ntmps17
    go_wp2_with fail
    go_ret
    exact ⟨by first | rfl | simp [*] | (simp; omega), later1 _ _⟩
  rw [decide_eq_true f1]
  simp only [Bool.true_and]
  by_cases f2 : zf ≤ 200000
  rotate_left
  · rw [decide_eq_false f2]
    simp only [Bool.false_and]
    go_enter Try.func17, Try.ntmps17
    go_wp2_with fail
    go_ret
    exact ⟨by first | rfl | simp [*] | (simp; omega), later1 _ _⟩
  rw [decide_eq_true f2]
  simp only [Bool.true_and]
  go_enter Try.func17, Try.ntmps17
  go_wp2_with fail
  go_ret
  exact ⟨by first | rfl | simp [*] | (simp; omega), later1 _ _⟩
end Go.Proofs.Ytlfkjjnhlkaipaa
