/- What spec.Bits answers, at every float. -/
import Derived.Test.YtleakieppapjmaaDoorW4
namespace Go.Proofs.YtleakieppapjmaaDoor
open Go.RowKit

theorem fin1_of {b : Nat} (hb : b < 18446744073709551616) (h0 : 0 < b % 9223372036854775808) (hi : b % 9223372036854775808 < 9218868437227405312) :
    Fin1 b (b % 9223372036854775808) (b / 9223372036854775808 % 2 == 1) := by
  have hn : nanB b = false := nanB_false hb (Nat.le_of_lt hi)
  have hw := word_of b hb
  obtain ⟨s, hs⟩ : ∃ s, (b / 9223372036854775808 % 2 == 1) = s := ⟨_, rfl⟩
  obtain ⟨r, hr⟩ : ∃ r, b % 9223372036854775808 = r := ⟨_, rfl⟩
  rw [hs, hr] at hw ⊢
  rw [hr] at h0 hi
  have hval : b = (if s then 9223372036854775808 else 0) + r := by
    rw [hw]; unfold Ieee.Format.word; rw [sw_eq]; cases s
    · rw [if_neg (by decide), if_neg (by decide), Nat.zero_add]
    · rw [if_pos (by decide), if_pos (by decide)]
  have ho : FloatKind.f64.format.order b 0 = some (compare (sg s (rv r)) 0) := by
    have := order_word s false hi (y := 0) zI
    rw [← hw, rv_small zB] at this
    exact this
  have hrp : 0 < rv r := by have := rv_lt h0; rwa [rv_small zB] at this
  refine ⟨hn, ?_, ?_, ?_, ?_, ?_, hi, hval⟩
  · rw [ho]
    cases s
    · rw [Int.compare_eq_gt.2 (show (0 : Int) < sg false (rv r) by unfold sg; rw [if_neg (by decide)]; omega)]; rfl
    · rw [Int.compare_eq_lt.2 (show sg true (rv r) < (0 : Int) by unfold sg; rw [if_pos (by decide)]; omega)]; rfl
  · rw [ho]
    cases s
    · rw [Int.compare_eq_gt.2 (show (0 : Int) < sg false (rv r) by unfold sg; rw [if_neg (by decide)]; omega)]; rfl
    · rw [Int.compare_eq_lt.2 (show sg true (rv r) < (0 : Int) by unfold sg; rw [if_pos (by decide)]; omega)]; rfl
  · cases s
    · rw [if_neg (by decide)] at hval ⊢; omega
    · rw [if_pos (by decide)] at hval ⊢
      rw [hval, Nat.add_comm]; exact xor63' r (by omega)
  · rw [f_eq hi zI, decide_eq_false (by omega)]
  · rw [f_gt hi (by decide), decide_eq_false (by omega)]

set_option maxHeartbeats 400000 in
theorem wb_nan (b : Nat) (h : (FloatKind.f64.format.order b b != some .eq) = true) (w : World) :
    Calls Tryd.prog 22 #[.float .f64 b] w fun e w' => e = .returned (.int .i64 9221120237041090561) ∧ w' = w := by
  go_enter Tryd.func22, Tryd.ntmps22
  go_wp2
  go_ret
  exact ⟨rfl, rfl⟩

theorem quo_one_p (w : World) : (binOp .quo 46 (.float .f64 4607182418800017408) (.float .f64 0)).run Tryd.prog w = .ok (.float .f64 9218868437227405312) w := run_quo (by decide +kernel) w
theorem quo_one_m (w : World) : (binOp .quo 46 (.float .f64 4607182418800017408) (.float .f64 9223372036854775808)).run Tryd.prog w = .ok (.float .f64 18442240474082181120) w := run_quo (by decide +kernel) w

set_option maxRecDepth 20000 in
set_option maxHeartbeats 400000 in
theorem wb_zero_p (w : World) (h1 : (FloatKind.f64.format.order 0 0 != some .eq) = false) (h2 : (FloatKind.f64.format.order 0 0 == some .lt) = false) (h3 : (FloatKind.f64.format.order 0 0 == some .eq) = true)
    (h4 : (FloatKind.f64.format.order 9218868437227405312 0 == some .lt) = false) :
    Calls Tryd.prog 22 #[.float .f64 0] w fun e w' => e = .returned (.int .i64 0) ∧ w' = w := by
  have hd := quo_one_p
  have hne := neg_float
  go_enter Tryd.func22, Tryd.ntmps22
  go_wp2
  go_ret
  exact ⟨rfl, rfl⟩

set_option maxRecDepth 20000 in
set_option maxHeartbeats 400000 in
theorem wb_zero_m (w : World) (b : Nat) (h1 : (FloatKind.f64.format.order b b != some .eq) = false) (h2 : (FloatKind.f64.format.order b 0 == some .lt) = false) (h3 : (FloatKind.f64.format.order b 0 == some .eq) = true)
    (hd : ∀ w, (binOp .quo 46 (.float .f64 4607182418800017408) (.float .f64 b)).run Tryd.prog w = .ok (.float .f64 18442240474082181120) w)
    (h4 : (FloatKind.f64.format.order 18442240474082181120 0 == some .lt) = true) (h5 : (FloatKind.f64.format.order 0 0 == some .eq) = true) (h6 : b ^^^ 2 ^ 63 = 0) :
    Calls Tryd.prog 22 #[.float .f64 b] w fun e w' => e = .returned (.int .i64 (wrap64 9223372036854775808)) ∧ w' = w := by
  have hne := neg_float
  go_enter Tryd.func22, Tryd.ntmps22
  go_wp2
  go_ret
  exact ⟨rfl, rfl⟩

set_option maxRecDepth 20000 in
set_option maxHeartbeats 400000 in
theorem wb_inf (b r : Nat) (w : World) (sg : Bool) (h1 : (FloatKind.f64.format.order b b != some .eq) = false) (h2 : (FloatKind.f64.format.order b 0 == some .lt) = sg) (h3 : (FloatKind.f64.format.order b 0 == some .eq) = false)
    (h4 : (if sg then b ^^^ 2 ^ 63 else b) = r) (h5 : (FloatKind.f64.format.order r 0 == some .eq) = false) (h6 : (FloatKind.f64.format.order r 9218868437227405311 == some .gt) = true) :
    Calls Tryd.prog 22 #[.float .f64 b] w fun e w' => e = .returned (.int .i64 (wrap64 (bits .or .u64 (if sg then 9223372036854775808 else 0) 9218868437227405312))) ∧ w' = w := by
  have hne := neg_float
  cases sg
  · rw [if_neg (by decide)] at h4
    subst h4
    go_enter Tryd.func22, Tryd.ntmps22
    go_wp2
    go_ret
    exact ⟨rfl, rfl⟩
  · rw [if_pos (by decide)] at h4
    go_enter Tryd.func22, Tryd.ntmps22
    go_wp2
    go_ret
    exact ⟨rfl, rfl⟩

theorem cb_low {b : Nat} (hb : b < 18446744073709551616) (h : b % 9223372036854775808 ≤ 9218868437227405312) : cb b = wrap64 b := cb_num (nanB_false hb h)

theorem inf_or (sg : Bool) : bits .or .u64 (if sg then 9223372036854775808 else 0) 9218868437227405312 = (((if sg then 9223372036854775808 else 0) + 9218868437227405312 : Nat) : Int) := by
  cases sg <;> decide +kernel

theorem sbits_any (b : Nat) (hb : b < 18446744073709551616) (w : World) :
    Calls Tryd.prog 22 #[.float .f64 b] w fun e w' => e = .returned (.int .i64 (cb b)) ∧ w' = w := by
  by_cases hn : 9218868437227405312 < b % 9223372036854775808
  · have := wb_nan b (nanB_of hn) w
    rw [cb_nan (nanB_of hn)]
    exact this
  · have hc := cb_low hb (by omega)
    by_cases h0 : b % 9223372036854775808 = 0
    · rcases (by omega : b = 0 ∨ b = 9223372036854775808) with e | e
      · subst e
        have := wb_zero_p w (by decide +kernel) (by decide +kernel) (by decide +kernel) (by decide +kernel)
        rw [hc, show wrap64 ((0 : Nat) : Int) = 0 by decide +kernel]
        exact this
      · have := wb_zero_m w b (by rw [e]; decide +kernel) (by rw [e]; decide +kernel) (by rw [e]; decide +kernel) (by rw [e]; exact quo_one_m) (by decide +kernel) (by decide +kernel) (by rw [e]; decide +kernel)
        rw [hc]
        rw [show (9223372036854775808 : Int) = ((b : Nat) : Int) by rw [e]; rfl] at this
        exact this
    · by_cases hi : b % 9223372036854775808 = 9218868437227405312
      · obtain ⟨sg, hsg⟩ : ∃ sg : Bool, b = (if sg then 9223372036854775808 else 0) + 9218868437227405312 := by
          rcases (by omega : b = 9218868437227405312 ∨ b = 18442240474082181120) with e | e
          · exact ⟨false, e⟩
          · exact ⟨true, e⟩
        have := wb_inf b 9218868437227405312 w sg (by rw [hsg]; cases sg <;> decide +kernel) (by rw [hsg]; cases sg <;> decide +kernel) (by rw [hsg]; cases sg <;> decide +kernel) (by rw [hsg]; cases sg <;> decide +kernel) (by decide +kernel) (by decide +kernel)
        rw [inf_or, ← hsg] at this
        rw [hc]
        exact this
      · have hf := fin1_of hb (by omega) (by omega)
        by_cases a : b % 9223372036854775808 < 4503599627370496
        · exact wb_low b _ _ hf (by omega) a w
        · by_cases c : b % 9223372036854775808 < 4607182418800017408
          · exact wb_mid b _ _ hf (by omega) c w
          · exact wb_high b _ _ hf (by omega) w

end Go.Proofs.YtleakieppapjmaaDoor
