/- What spec.Arith, FromInt, ToInt and sameFloat answer. -/
import Derived.Test.YtedhmidodcbegaaW6
namespace Go.Proofs.Ytedhmidodcbegaa
open Go.RowKit

theorem nan_read {x : Nat} (hx : x < 18446744073709551616) (h : nanB x = true) : ∃ s f, Ieee.double.read x = .nan s f := by
  by_cases hn : 9218868437227405312 < x % 9223372036854775808
  · exact read_nan hn
  · rw [nanB_false hx (by omega)] at h; cases h

theorem fl_nan_l {x y : Nat} {op : BinOp} {s : Bool} {f : Nat} (h : Ieee.double.read x = .nan s f) : floatBits op .f64 x y = none := by
  unfold floatBits
  cases op <;> first | rfl | skip
  all_goals
    show Option.map _ _ = none
    show Option.map _ (_) = none
    rw [show FloatKind.f64.format = Ieee.double from rfl, h]
    cases Ieee.double.read y <;> rfl
theorem fl_nan_r {x y : Nat} {op : BinOp} {s : Bool} {f : Nat} (h : Ieee.double.read y = .nan s f) : floatBits op .f64 x y = none := by
  unfold floatBits
  cases op <;> first | rfl | skip
  all_goals
    show Option.map _ _ = none
    rw [show FloatKind.f64.format = Ieee.double from rfl, h]
    cases Ieee.double.read x <;> rfl
theorem or_nan_l {x y : Nat} {s : Bool} {f : Nat} (h : Ieee.double.read x = .nan s f) : FloatKind.f64.format.order x y = none := by
  show Ieee.Datum.order (Ieee.double.read x) (Ieee.double.read y) = none
  rw [h]; cases Ieee.double.read y <;> rfl
theorem or_nan_r {x y : Nat} {s : Bool} {f : Nat} (h : Ieee.double.read y = .nan s f) : FloatKind.f64.format.order x y = none := by
  show Ieee.Datum.order (Ieee.double.read x) (Ieee.double.read y) = none
  rw [h]; cases Ieee.double.read x <;> rfl

def nanOut (k : Int) : Int := if k = 0 then 9221120237041090561 else if k = 1 then 9221120237041090561 else if k = 2 then 9221120237041090561 else if k = 3 then 9221120237041090561 else 0
theorem nanOut_of {k : Int} {x y : Nat} (h1 : ∀ op, floatBits op .f64 x y = none) (h2 : FloatKind.f64.format.order x y = none) : arOut k x y = nanOut k := by
  unfold arOut nanOut arZ
  rw [h1, h1, h1, h1, h2]
  have e1 : b2i ((none : Option Ordering) == some .lt) = 0 := rfl
  have e2 : b2i ((none : Option Ordering) == some .eq) = 0 := rfl
  simp only [e1, e2]
  split
  · rfl
  · split
    · rfl
    · split
      · rfl
      · split
        · rfl
        · split
          · rfl
          · split <;> rfl
theorem arOut_l {k : Int} {x y : Nat} (hx : x < 18446744073709551616) (h : nanB x = true) : arOut k x y = nanOut k := by
  obtain ⟨s, f, hr⟩ := nan_read hx h
  exact nanOut_of (fun _ => fl_nan_l hr) (or_nan_l hr)
theorem arOut_r {k : Int} {x y : Nat} (hy : y < 18446744073709551616) (h : nanB y = true) : arOut k x y = nanOut k := by
  obtain ⟨s, f, hr⟩ := nan_read hy h
  exact nanOut_of (fun _ => fl_nan_r hr) (or_nan_r hr)

theorem arOut_same {k : Int} {x y x' y' : Nat} (hx : x < 18446744073709551616) (hy : y < 18446744073709551616) (hx' : x' < 18446744073709551616) (hy' : y' < 18446744073709551616)
    (h1 : Same x x') (h2 : Same y y') : arOut k x' y' = arOut k x y := by
  rcases h1 with ⟨_, rfl⟩ | ⟨a, a'⟩
  · rcases h2 with ⟨_, rfl⟩ | ⟨b, b'⟩
    · rfl
    · rw [arOut_r hy' b', arOut_r hy b]
  · rw [arOut_l hx' a', arOut_l hx a]

set_option maxHeartbeats 800000 in
theorem sarith_pre (k a b : Int) (w : World) :
    Calls Try.prog 24 #[.int .i64 k, .int .i64 a, .int .i64 b] w fun e w' => ∃ x y, Same (fb a) x ∧ x < 18446744073709551616 ∧ Same (fb b) y ∧ y < 18446744073709551616 ∧ e = .returned (.int .i64 (arOut k x y)) ∧ Later w w' := by
  have r1 := run_ar_add
  have r2 := run_ar_sub
  have r3 := run_ar_mul
  have r4 := run_ar_quo
  rcases ar_cases k with rfl | rfl | rfl | rfl | rfl | rfl | h
  rotate_right
  · obtain ⟨h0, h1, h2, h3, h4, h5⟩ := id h
    have HZ : Hid ((k == 0) = false ∧ (k == 1) = false ∧ (k == 2) = false ∧ (k == 3) = false ∧ (k == 4) = false ∧ (k == 5) = false) := h
    clear h
    go_enter Try.func24, Try.ntmps24
    go_wp2_with (go_at_call 17; refine (sfl_any _ _).mono ?_; rintro e w' ⟨x, rfl, hx, lx, hw⟩)
    go_ret
    refine ⟨_, _, ‹Same (fb a) _›, ?_, ‹Same (fb b) _›, lx, ret_int (arOut_none _ _ HZ.out).symm, Later.trans ‹Later w _› hw⟩
    assumption
  all_goals
    go_enter Try.func24, Try.ntmps24
    go_wp2_with (first | (go_at_call 17; refine (sfl_any _ _).mono ?_; rintro e w' ⟨x, rfl, hx, lx, hw⟩) | (go_at_call 22; refine (sbits_any _ (arN_lt _ _ _ _) _).mono ?_; rintro e w' ⟨rfl, rfl⟩) | (go_at_call 37; refine (l1bool_any _ _).mono ?_; rintro e w' ⟨rfl, rfl⟩))
    go_ret
    refine ⟨_, _, ‹Same (fb a) _›, ?_, ‹Same (fb b) _›, lx, ?_, ?_⟩
    · assumption
    · first
        | exact ret_int (cb_arN _ _ _ _)
        | rfl
    · first
        | exact Later.trans (Later.trans ‹Later w _› hw) (arW_later _ _ _ _)
        | exact Later.trans ‹Later w _› hw

theorem sarith_any (k a b : Int) (w : World) :
    Calls Try.prog 24 #[.int .i64 k, .int .i64 a, .int .i64 b] w fun e w' => e = .returned (.int .i64 (arOut k (fb a) (fb b))) ∧ Later w w' := by
  refine (sarith_pre k a b w).mono ?_
  rintro e w' ⟨x, y, hx, lx, hy, ly, rfl, hw⟩
  exact ⟨ret_int (arOut_same (fb_lt a) (fb_lt b) lx ly hx hy), hw⟩

theorem floatOfInt_lt (n : Int) : floatOfInt .f64 n < 18446744073709551616 := by
  have := floatOfInt_wf .f64 n
  simpa [Lit.wf] using this

set_option maxHeartbeats 400000 in
theorem fromint_any (n : Int) (w : World) : Calls Try.prog 21 #[.int .i64 n] w fun e w' => e = .returned (.int .i64 (cb (floatOfInt .f64 n))) ∧ w' = w := by
  go_enter Try.func21, Try.ntmps21
  go_wp2_with (go_at_call 13; refine (bits_any _ _).mono ?_; rintro e w' ⟨rfl, rfl⟩)
  go_ret
  exact ⟨rfl, rfl⟩
set_option maxHeartbeats 400000 in
theorem sfromint_any (n : Int) (w : World) : Calls Try.prog 25 #[.int .i64 n] w fun e w' => e = .returned (.int .i64 (cb (floatOfInt .f64 n))) ∧ w' = w := by
  go_enter Try.func25, Try.ntmps25
  go_wp2_with (go_at_call 22; refine (sbits_any _ (floatOfInt_lt _) _).mono ?_; rintro e w' ⟨rfl, rfl⟩)
  go_ret
  exact ⟨rfl, rfl⟩

/-- The answer of ToInt on the float with the bits x. -/
def toI (x : Nat) : Int :=
  if nanB x then 0 else if (FloatKind.f64.format.order x 4890909195324358656 == some .gt || FloatKind.f64.format.order x 4890909195324358656 == some .eq) then 9223372036854775807
  else if (FloatKind.f64.format.order x 14114281232179134464 == some .lt) then -9223372036854775808 else (floatToIntVal .f64 x .i64).getD 0

theorem p63_pos : (4890909195324358656 : Nat) = (1023 + 63) * 4503599627370496 := rfl
theorem toint_fits {x : Nat} (hx : x < 18446744073709551616) (hn : nanB x = false)
    (h1 : (FloatKind.f64.format.order x 4890909195324358656 == some .gt || FloatKind.f64.format.order x 4890909195324358656 == some .eq) = false)
    (h2 : (FloatKind.f64.format.order x 14114281232179134464 == some .lt) = false) : ∃ v : Int, floatToIntVal .f64 x .i64 = some v := by
  have hle : x % 9223372036854775808 ≤ 9218868437227405312 := by
    rcases Nat.lt_or_ge 9218868437227405312 (x % 9223372036854775808) with a | a
    · rw [nanB_of a] at hn; cases hn
    · exact a
  rcases Nat.eq_or_lt_of_le hle with e | l
  · exfalso
    rcases (by omega : x = 9218868437227405312 ∨ x = 18442240474082181120) with e | e
    · rw [e] at h1; revert h1; decide +kernel
    · rw [e] at h2; revert h2; decide +kernel
  · have hw := word_of x hx
    generalize (x / 9223372036854775808 % 2 == 1) = s at hw
    generalize x % 9223372036854775808 = r at *
    have o1 := order_word s false l (y := 4890909195324358656) (by decide)
    have o2 := order_word s true l (y := 4890909195324358656) (by decide)
    rw [← hw] at o1 o2
    have o1' : FloatKind.f64.format.order x 4890909195324358656 = some (compare (sg s (rv r)) (sg false (rv 4890909195324358656))) := o1
    have o2' : FloatKind.f64.format.order x 14114281232179134464 = some (compare (sg s (rv r)) (sg true (rv 4890909195324358656))) := o2
    have hp : rv 4890909195324358656 = 9223372036854775808 * 2 ^ KK := by rw [p63_pos, rv_pow]
    have ht := toInt_word s l
    rw [← hw] at ht
    have ht' : (FloatKind.f64.decode x).toInt .zero = some (sg s (rv r / 2 ^ KK)) := ht
    have hKp : 0 < 2 ^ KK := Nat.two_pow_pos _
    have g1 : sg s (rv r) < sg false (rv 4890909195324358656) := by
      rcases Int.lt_trichotomy (sg s (rv r)) (sg false (rv 4890909195324358656)) with a | a | a
      · exact a
      · rw [o1', Int.compare_eq_eq.2 a] at h1; cases h1
      · rw [o1', Int.compare_eq_gt.2 a] at h1; cases h1
    have g2 : ¬ sg s (rv r) < sg true (rv 4890909195324358656) := by
      intro a
      rw [o2', Int.compare_eq_lt.2 a] at h2; cases h2
    clear o1 o2 o1' o2' h1 h2 ht
    rw [hp] at g1 g2
    have bnd : rv r ≤ 9223372036854775808 * 2 ^ KK ∧ (s = false → rv r < 9223372036854775808 * 2 ^ KK) := by
      generalize 9223372036854775808 * 2 ^ KK = M at g1 g2 ⊢
      generalize rv r = R at g1 g2 ⊢
      clear hp hKp ht'
      cases s
      · simp only [sg, Bool.false_eq_true, if_false, if_true] at g1 g2
        exact ⟨by omega, fun _ => by omega⟩
      · simp only [sg, Bool.false_eq_true, if_false, if_true] at g1 g2
        exact ⟨by omega, fun h => by cases h⟩
    have q1 : rv r / 2 ^ KK ≤ 9223372036854775808 := by
      have := Nat.div_le_div_right (c := 2 ^ KK) bnd.1
      rwa [Nat.mul_div_cancel _ hKp] at this
    have q2 : s = false → rv r / 2 ^ KK < 9223372036854775808 := fun h => (Nat.div_lt_iff_lt_mul hKp).2 (bnd.2 h)
    generalize rv r / 2 ^ KK = Q at ht' q1 q2
    refine ⟨sg s Q, ?_⟩
    unfold floatToIntVal
    rw [ht']
    have m0 : IntKind.i64.min = -9223372036854775808 := rfl
    have m1 : IntKind.i64.max = 9223372036854775807 := rfl
    clear hp hKp ht' bnd g1 g2
    simp only
    rw [if_pos]
    rw [m0, m1]
    cases s
    · have := q2 rfl
      simp only [sg, Bool.false_eq_true, if_false]; omega
    · simp only [sg, if_true]; omega

theorem toI_nan {x : Nat} (h : nanB x = true) : toI x = 0 := by unfold toI; rw [if_pos h]
theorem toI_same {x b : Nat} (h : Same x b) : toI b = toI x := by
  rcases h with ⟨_, rfl⟩ | ⟨a, b⟩
  · rfl
  · rw [toI_nan a, toI_nan b]

/-- The four ways of ToInt, by tests. -/
theorem toI_ways {x : Nat} (hx : x < 18446744073709551616) : ((FloatKind.f64.format.order x x != some .eq) = true ∧ toI x = 0) ∨
    ((FloatKind.f64.format.order x x != some .eq) = false ∧ (FloatKind.f64.format.order x 4890909195324358656 == some .gt || FloatKind.f64.format.order x 4890909195324358656 == some .eq) = true ∧ toI x = 9223372036854775807) ∨
    ((FloatKind.f64.format.order x x != some .eq) = false ∧ (FloatKind.f64.format.order x 4890909195324358656 == some .gt || FloatKind.f64.format.order x 4890909195324358656 == some .eq) = false ∧ (FloatKind.f64.format.order x 14114281232179134464 == some .lt) = true ∧ toI x = -9223372036854775808) ∨
    ((FloatKind.f64.format.order x x != some .eq) = false ∧ (FloatKind.f64.format.order x 4890909195324358656 == some .gt || FloatKind.f64.format.order x 4890909195324358656 == some .eq) = false ∧ (FloatKind.f64.format.order x 14114281232179134464 == some .lt) = false ∧
      ∀ w, (convert 23 3 (.float .f64 x)).run Try.prog w = .ok (.int .i64 (toI x)) w) := by
  rcases a : nanB x
  · rcases b : (FloatKind.f64.format.order x 4890909195324358656 == some .gt || FloatKind.f64.format.order x 4890909195324358656 == some .eq)
    · rcases c : (FloatKind.f64.format.order x 14114281232179134464 == some .lt)
      · obtain ⟨v, hv⟩ := toint_fits hx a b c
        have : toI x = v := by
          unfold toI
          rw [if_neg (by rw [a]; decide), if_neg (by rw [b]; decide), if_neg (by rw [c]; decide), hv]; rfl
        exact .inr (.inr (.inr ⟨a, rfl, rfl, fun w => by rw [this]; exact run_convert_float_int w 23 3 .f64 .i64 x v (by kernel_rfl) Try.underlying3 hv⟩))
      · exact .inr (.inr (.inl ⟨a, rfl, rfl, by unfold toI; rw [if_neg (by rw [a]; decide), if_neg (by rw [b]; decide), if_pos c]⟩))
    · exact .inr (.inl ⟨a, rfl, by unfold toI; rw [if_neg (by rw [a]; decide), if_pos b]⟩)
  · exact .inl ⟨a, toI_nan a⟩

end Go.Proofs.Ytedhmidodcbegaa
