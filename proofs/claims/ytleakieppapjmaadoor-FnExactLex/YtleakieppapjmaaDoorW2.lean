/- The walk over spec.Float. -/
import Derived.Test.YtleakieppapjmaaDoorW1
namespace Go.Proofs.YtleakieppapjmaaDoor
open Go.RowKit

theorem dbl_var {r T k : Nat} (hT : T < 9218868437227405312) (hr : 4503599627370496 ≤ r) (h : rv T = rv r * 2 ^ (k + 1)) :
    ∃ z, (∀ w, (binOp .mul 46 (.float .f64 r) (.float .f64 4611686018427387904)).run Tryd.prog w = .ok (.float .f64 z) w) ∧ rv T = rv z * 2 ^ k ∧ 4503599627370496 ≤ z := by
  obtain ⟨a, b, c⟩ := dbl_step hT hr h
  exact ⟨_, run_mul a, b, Nat.le_add_left _ _⟩
theorem hlf_var {r T j : Nat} (hr : r < 9218868437227405312) (h : rv r = rv T * 2 ^ (j + 1)) :
    ∃ z, (∀ w, (binOp .quo 46 (.float .f64 r) (.float .f64 4611686018427387904)).run Tryd.prog w = .ok (.float .f64 z) w) ∧ rv z = rv T * 2 ^ j ∧ z < 9218868437227405312 := by
  obtain ⟨y, a, b, c⟩ := hlf_step hr h
  exact ⟨y, run_quo a, b, c⟩
theorem rv_end {r T : Nat} (h : rv T = rv r * 2 ^ 0) : r = T := rv_inj (by rw [h, Nat.pow_zero, Nat.mul_one])
theorem rv_end' {r T : Nat} (h : rv r = rv T * 2 ^ 0) : r = T := rv_inj (by rw [h, Nat.pow_zero, Nat.mul_one])

set_option maxHeartbeats 400000 in
theorem wk_up (n : Int) (u e f q x y T k : Nat) (sg : Bool) (h1 : bits .and .u64 ((u : Int) / 4503599627370496) 2047 = (e : Int)) (h2 : bits .and .u64 (u : Int) 4503599627370495 = (f : Int))
    (hsh : ((u : Int) / 9223372036854775808 == 1) = sg) (hq : floatOfInt .f64 (f : Int) = q)
    (hd' : ∀ w, (binOp .quo 46 (.float .f64 q) (.float .f64 4841369599423283200)).run Tryd.prog w = .ok (.float .f64 x) w)
    (ha' : ∀ w, (binOp .add 46 (.float .f64 x) (.float .f64 4607182418800017408)).run Tryd.prog w = .ok (.float .f64 y) w)
    (hne : ∀ x, Op.unary .neg (.float .f64 x) = pure (.float .f64 (x ^^^ 2 ^ 63)))
    (he3 : ((e : Int) == 2047) = false) (he4 : ((e : Int) == 0) = false) (hwr : wrap64 (e : Int) = e) (hwr2 : wrap64 ((e : Int) - 1023) = (k : Int)) (hk : k ≤ 1023)
    (hT : T < 9218868437227405312) (hy : 4503599627370496 ≤ y) (hv : Hid (rv T = rv y * 2 ^ k)) (hn : IntKind.u64.wrap n = u) (w : World) :
    Calls Tryd.prog 23 #[.int .i64 n] w fun e w' => e = .returned (.float .f64 (if sg then T ^^^ 2 ^ 63 else T)) ∧ w' = w := by
  go_enter Tryd.func23, Tryd.ntmps23
  go_wp2
  go_loop [7, 8] (fun a c => ∃ (r j : Nat), a = .float .f64 r ∧ c = .int .i64 (j : Int) ∧ 4503599627370496 ≤ r ∧ j ≤ 1023 ∧ Hid (rv T = rv r * 2 ^ j)) (fun _ c => (intOf c).toNat)
  case atStart => exact ⟨y, k, rfl, by rw [hwr2], hy, hk, hv⟩
  case round =>
    obtain ⟨r, j, rfl, rfl, hr, hj, hrel⟩ := hrel
    cases j with
    | zero =>
      have hrT := rv_end hrel.out
      subst hrT
      go_wp2
      go_loop [7, 8] (fun a c => a = .float .f64 r ∧ c = .int .i64 0) (fun _ _ => 0)
      case atStart => exact ⟨rfl, rfl⟩
      case round =>
        obtain ⟨rfl, rfl⟩ := hrel
        cases sg
        all_goals
          go_wp2
          go_ret
          exact ⟨rfl, rfl⟩
    | succ j =>
      obtain ⟨z, hz, hz2, hz3⟩ := dbl_var hT hr hrel.out
      have HZ : Hid (rv T = rv z * 2 ^ j) := hz2
      clear hz2
      go_wp2
      go_round
      case rel => exact ⟨z, j, rfl, by go_num, hz3, by omega, HZ⟩
      case measure => simp [intOf]

set_option maxHeartbeats 400000 in
theorem wk_down (n : Int) (u e f q x y T k : Nat) (sg : Bool) (h1 : bits .and .u64 ((u : Int) / 4503599627370496) 2047 = (e : Int)) (h2 : bits .and .u64 (u : Int) 4503599627370495 = (f : Int))
    (hsh : ((u : Int) / 9223372036854775808 == 1) = sg) (hq : floatOfInt .f64 (f : Int) = q)
    (hd' : ∀ w, (binOp .quo 46 (.float .f64 q) (.float .f64 4841369599423283200)).run Tryd.prog w = .ok (.float .f64 x) w)
    (ha' : ∀ w, (binOp .add 46 (.float .f64 x) (.float .f64 4607182418800017408)).run Tryd.prog w = .ok (.float .f64 y) w)
    (hne : ∀ x, Op.unary .neg (.float .f64 x) = pure (.float .f64 (x ^^^ 2 ^ 63)))
    (he3 : ((e : Int) == 2047) = false) (he4 : ((e : Int) == 0) = false) (hwr : wrap64 (e : Int) = e) (hwr2 : wrap64 ((e : Int) - 1023) = -(k : Int)) (hk : k ≤ 1023)
    (hy : y < 9218868437227405312) (hv : Hid (rv y = rv T * 2 ^ k)) (hn : IntKind.u64.wrap n = u) (w : World) :
    Calls Tryd.prog 23 #[.int .i64 n] w fun e w' => e = .returned (.float .f64 (if sg then T ^^^ 2 ^ 63 else T)) ∧ w' = w := by
  go_enter Tryd.func23, Tryd.ntmps23
  go_wp2
  go_loop [7, 8] (fun a c => a = .float .f64 y ∧ c = .int .i64 (-(k : Int))) (fun _ _ => 0)
  case atStart => exact ⟨rfl, by rw [hwr2]⟩
  case round =>
    obtain ⟨rfl, rfl⟩ := hrel
    have hk0 : (0 : Int) ≤ (k : Int) := by omega
    go_wp2
    go_loop [7, 8] (fun a c => ∃ (r j : Nat), a = .float .f64 r ∧ c = .int .i64 (-(j : Int)) ∧ r < 9218868437227405312 ∧ j ≤ 1023 ∧ Hid (rv r = rv T * 2 ^ j)) (fun _ c => (-(intOf c)).toNat)
    case atStart => exact ⟨y, k, rfl, rfl, hy, hk, hv⟩
    case round =>
      obtain ⟨r, j, rfl, rfl, hr, hj, hrel⟩ := hrel
      cases j with
      | zero =>
        have hrT := rv_end' hrel.out
        subst hrT
        cases sg
        all_goals
          go_wp2
          go_ret
          exact ⟨rfl, rfl⟩
      | succ j =>
        obtain ⟨z, hz, hz2, hz3⟩ := hlf_var hr hrel.out
        have HZ : Hid (rv z = rv T * 2 ^ j) := hz2
        clear hz2
        go_wp2
        go_round
        case rel => exact ⟨z, j, rfl, by go_num, hz3, by omega, HZ⟩
        case measure => simp [intOf]; omega

set_option maxHeartbeats 400000 in
theorem wk_sub (n : Int) (u f q x T : Nat) (sg : Bool) (h1 : bits .and .u64 ((u : Int) / 4503599627370496) 2047 = 0) (h2 : bits .and .u64 (u : Int) 4503599627370495 = (f : Int))
    (hsh : ((u : Int) / 9223372036854775808 == 1) = sg) (hq : floatOfInt .f64 (f : Int) = q)
    (hd' : ∀ w, (binOp .quo 46 (.float .f64 q) (.float .f64 4841369599423283200)).run Tryd.prog w = .ok (.float .f64 x) w)
    (hne : ∀ x, Op.unary .neg (.float .f64 x) = pure (.float .f64 (x ^^^ 2 ^ 63)))
    (hx : x < 9218868437227405312) (hv : Hid (rv x = rv T * 2 ^ KL)) (hn : IntKind.u64.wrap n = u) (w : World) :
    Calls Tryd.prog 23 #[.int .i64 n] w fun e w' => e = .returned (.float .f64 (if sg then T ^^^ 2 ^ 63 else T)) ∧ w' = w := by
  go_enter Tryd.func23, Tryd.ntmps23
  go_wp2
  go_loop [7, 8] (fun a c => a = .float .f64 x ∧ c = .int .i64 (-1022)) (fun _ _ => 0)
  case atStart => exact ⟨rfl, rfl⟩
  case round =>
    obtain ⟨rfl, rfl⟩ := hrel
    go_wp2
    go_loop [7, 8] (fun a c => ∃ (r j : Nat), a = .float .f64 r ∧ c = .int .i64 (-(j : Int)) ∧ r < 9218868437227405312 ∧ j ≤ 1023 ∧ Hid (rv r = rv T * 2 ^ j)) (fun _ c => (-(intOf c)).toNat)
    case atStart => exact ⟨x, KL, rfl, rfl, hx, by rw [kl]; omega, hv⟩
    case round =>
      obtain ⟨r, j, rfl, rfl, hr, hj, hrel⟩ := hrel
      cases j with
      | zero =>
        have hrT := rv_end' hrel.out
        subst hrT
        cases sg
        all_goals
          go_wp2
          go_ret
          exact ⟨rfl, rfl⟩
      | succ j =>
        obtain ⟨z, hz, hz2, hz3⟩ := hlf_var hr hrel.out
        have HZ : Hid (rv z = rv T * 2 ^ j) := hz2
        clear hz2
        go_wp2
        go_round
        case rel => exact ⟨z, j, rfl, by go_num, hz3, by omega, HZ⟩
        case measure => simp [intOf]; omega

set_option maxHeartbeats 400000 in
theorem wk_inf (n : Int) (u q x : Nat) (sg : Bool) (h1 : bits .and .u64 ((u : Int) / 4503599627370496) 2047 = 2047) (h2 : bits .and .u64 (u : Int) 4503599627370495 = 0)
    (hsh : ((u : Int) / 9223372036854775808 == 1) = sg) (hq : floatOfInt .f64 0 = q)
    (hd' : ∀ w, (binOp .quo 46 (.float .f64 q) (.float .f64 4841369599423283200)).run Tryd.prog w = .ok (.float .f64 x) w)
    (hi : ∀ w, (binOp .quo 46 (.float .f64 4607182418800017408) (.float .f64 0)).run Tryd.prog w = .ok (.float .f64 9218868437227405312) w)
    (hne : ∀ x, Op.unary .neg (.float .f64 x) = pure (.float .f64 (x ^^^ 2 ^ 63)))
    (hn : IntKind.u64.wrap n = u) (w : World) :
    Calls Tryd.prog 23 #[.int .i64 n] w fun e w' => e = .returned (.float .f64 (if sg then 9218868437227405312 ^^^ 2 ^ 63 else 9218868437227405312)) ∧ w' = w := by
  cases sg
  all_goals
    go_enter Tryd.func23, Tryd.ntmps23
    go_wp2
    go_ret
    exact ⟨rfl, rfl⟩

set_option maxHeartbeats 400000 in
theorem wk_nan (n : Int) (u f q x : Nat) (h1 : bits .and .u64 ((u : Int) / 4503599627370496) 2047 = 2047) (h2 : bits .and .u64 (u : Int) 4503599627370495 = (f : Int)) (hf : ((f : Int) != 0) = true)
    (hq : floatOfInt .f64 (f : Int) = q)
    (hd' : ∀ w, (binOp .quo 46 (.float .f64 q) (.float .f64 4841369599423283200)).run Tryd.prog w = .ok (.float .f64 x) w)
    (hi : ∀ w, (binOp .quo 46 (.float .f64 0) (.float .f64 0)).run Tryd.prog w = .ok (.float .f64 (nanOf 0 0 w)) w.drew)
    (hn : IntKind.u64.wrap n = u) (w : World) :
    Calls Tryd.prog 23 #[.int .i64 n] w fun e w' => e = .returned (.float .f64 (nanOf 0 0 w)) ∧ w' = w.drew := by
  go_enter Tryd.func23, Tryd.ntmps23
  go_wp2
  go_ret
  exact ⟨rfl, rfl⟩

end Go.Proofs.YtleakieppapjmaaDoor
