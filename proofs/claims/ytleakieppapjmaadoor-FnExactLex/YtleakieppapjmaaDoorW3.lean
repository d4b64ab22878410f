/- What spec.Float answers, at every int. -/
import Derived.Test.YtleakieppapjmaaDoorW2
namespace Go.Proofs.YtleakieppapjmaaDoor
open Go.RowKit

theorem nanB_false {b : Nat} (hb : b < 18446744073709551616) (h : b % 9223372036854775808 ≤ 9218868437227405312) : nanB b = false := by
  unfold nanB
  show (Ieee.double.order b b != some .eq) = false
  rcases Nat.eq_or_lt_of_le h with e | l
  · unfold Ieee.Format.order
    rw [read_inf e]
    have : Ieee.Datum.order (.infinity (b / 9223372036854775808 % 2 == 1)) (.infinity (b / 9223372036854775808 % 2 == 1)) = some .eq := by
      cases (b / 9223372036854775808 % 2 == 1) <;> rfl
    rw [this]; rfl
  · have hw := word_of b hb
    generalize (b / 9223372036854775808 % 2 == 1) = s at hw
    generalize b % 9223372036854775808 = r at *
    rw [hw, order_word s s l l, Int.compare_eq_eq.2 rfl]; rfl

theorem fb_lt (n : Int) : fb n < 18446744073709551616 := by
  unfold fb; rw [IntKind.wrap_u64]; omega
theorem fb_wrap (n : Int) : IntKind.u64.wrap n = (fb n : Int) := by
  unfold fb; rw [IntKind.wrap_u64]; omega
theorem nanB_iff (n : Int) : nanB (fb n) = decide (9218868437227405312 < fb n % 9223372036854775808) := by
  by_cases h : 9218868437227405312 < fb n % 9223372036854775808
  · rw [nanB_of h, decide_eq_true h]
  · rw [nanB_false (fb_lt n) (by omega), decide_eq_false h]

theorem one_by_nought : Ieee.double.div 4607182418800017408 0 = some 9218868437227405312 := by decide +kernel
theorem nought_by_nought (w : World) : (binOp .quo 46 (.float .f64 0) (.float .f64 0)).run Tryd.prog w = .ok (.float .f64 (nanOf 0 0 w)) w.drew := by
  have h : floatBits .quo .f64 0 0 = none := by decide +kernel
  have := run_ar .quo (by simp) 46 0 0 w
  have e1 : arN .quo 0 0 w = nanOf 0 0 w := by unfold arN; rw [h]
  have e2 : arW .quo 0 0 w = w.drew := by unfold arW; rw [h]
  rw [this, e1, e2]

theorem parts (u : Nat) (hu : u < 18446744073709551616) : ∃ s e f : Nat, s < 2 ∧ e < 2048 ∧ f < 4503599627370496 ∧ u = s * 9223372036854775808 + e * 4503599627370496 + f :=
  ⟨u / 9223372036854775808, u / 4503599627370496 % 2048, u % 4503599627370496, by omega, by omega, by omega, by omega⟩

theorem sign_test {u s R : Nat} (hs : s < 2) (hR : R < 9223372036854775808) (hu : u = s * 9223372036854775808 + R) :
    ((u : Int) / 9223372036854775808 == 1) = decide (s = 1) ∧ (if decide (s = 1) then R ^^^ 2 ^ 63 else R) = u := by
  rcases (by omega : s = 0 ∨ s = 1) with rfl | rfl
  · refine ⟨?_, ?_⟩
    · have : (u : Int) / 9223372036854775808 = 0 := by omega
      rw [this]; rfl
    · rw [if_neg (by decide)]; omega
  · refine ⟨?_, ?_⟩
    · have : (u : Int) / 9223372036854775808 = 1 := by omega
      rw [this]; rfl
    · rw [if_pos (by decide), xor63 R hR]; omega

theorem rv_up {e f : Nat} (he : 1023 ≤ e) (hf : f < 4503599627370496) : rv (e * 4503599627370496 + f) = rv (4607182418800017408 + f) * 2 ^ (e - 1023) := by
  have h := rv_add (r := 4607182418800017408 + f) (by omega) (e - 1023)
  rw [← h]
  exact congrArg rv (by omega)
theorem rv_down {e f : Nat} (he : e < 1023) (he1 : 1 ≤ e) (hf : f < 4503599627370496) : rv (4607182418800017408 + f) = rv (e * 4503599627370496 + f) * 2 ^ (1023 - e) := by
  have h := rv_add (r := e * 4503599627370496 + f) (by omega) (1023 - e)
  rw [← h]
  exact congrArg rv (by omega)

theorem w64_e {e : Nat} (he : e < 2048) : wrap64 (e : Int) = e := by unfold wrap64; omega
theorem w64_up {e : Nat} (he : e < 2048) (h : 1023 ≤ e) : wrap64 ((e : Int) - 1023) = ((e - 1023 : Nat) : Int) := by unfold wrap64; omega
theorem w64_down {e : Nat} (h : e < 1023) : wrap64 ((e : Int) - 1023) = -((1023 - e : Nat) : Int) := by unfold wrap64; omega
theorem ne_2047 {e : Nat} (h : e ≠ 2047) : ((e : Int) == 2047) = false := by simp; omega
theorem ne_0 {e : Nat} (h : e ≠ 0) : ((e : Int) == 0) = false := by simp; omega
theorem bne_0 {e : Nat} (h : e ≠ 0) : ((e : Int) != 0) = true := by simp; omega
theorem rung_lt {e f : Nat} (he : e < 2047) (hf : f < 4503599627370496) : e * 4503599627370496 + f < 9218868437227405312 := by omega
theorem one_lt {f : Nat} (hf : f < 4503599627370496) : 4607182418800017408 + f < 9218868437227405312 := by omega
theorem one_ge (f : Nat) : 4503599627370496 ≤ 4607182418800017408 + f := by omega

theorem sfloat_num (n : Int) (hnan : nanB (fb n) = false) (w : World) :
    Calls Tryd.prog 23 #[.int .i64 n] w fun e w' => e = .returned (.float .f64 (fb n)) ∧ w' = w := by
  rw [nanB_iff] at hnan
  have hle := of_decide_eq_false hnan
  obtain ⟨s, e, f, hs, he, hf, hu⟩ := parts (fb n) (fb_lt n)
  have hn := fb_wrap n
  generalize fb n = u at *
  have hR : e * 4503599627370496 + f < 9223372036854775808 := by clear hn; omega
  have hu' : u = s * 9223372036854775808 + (e * 4503599627370496 + f) := by rw [hu, Nat.add_assoc]
  have hinf : e = 2047 → f = 0 := by clear hn; omega
  have h1 := and_exp hs he hf hu
  have h2 := and_frac hs he hf hu
  obtain ⟨t1, t2⟩ := sign_test hs hR hu'
  clear hle hnan hu hu' hR
  obtain ⟨q, x, hq, hd, rx, lx, ha⟩ := frac_q hf
  by_cases e1 : e = 2047
  · have e2 : f = 0 := hinf e1
    subst e1; subst e2
    have := wk_inf n u q x _ h1 h2 t1 hq (run_quo hd) (run_quo one_by_nought) neg_float hn w
    rw [← t2]
    exact this
  · by_cases e2 : e = 0
    · subst e2
      rw [Nat.zero_mul, Nat.zero_add] at t2
      have := wk_sub n u f q x f _ h1 h2 t1 hq (run_quo hd) neg_float lx (by rw [rv_small hf]; exact rx) hn w
      rw [t2] at this
      exact this
    · have he' : e < 2047 := Nat.lt_of_le_of_ne (Nat.le_of_lt_succ he) e1
      by_cases e3 : 1023 ≤ e
      · have := wk_up n u e f q x (4607182418800017408 + f) (e * 4503599627370496 + f) (e - 1023) (decide (s = 1)) h1 h2 t1 hq (run_quo hd) (run_add ha) neg_float (ne_2047 e1) (ne_0 e2) (w64_e he) (w64_up he e3) (by clear ha rx; omega) (rung_lt he' hf) (one_ge f) (rv_up e3 hf) hn w
        rw [t2] at this
        exact this
      · have e4 : e < 1023 := Nat.lt_of_not_le e3
        have := wk_down n u e f q x (4607182418800017408 + f) (e * 4503599627370496 + f) (1023 - e) (decide (s = 1)) h1 h2 t1 hq (run_quo hd) (run_add ha) neg_float (ne_2047 e1) (ne_0 e2) (w64_e he) (w64_down e4) (Nat.sub_le _ _) (one_lt hf) (rv_down e4 (Nat.pos_of_ne_zero e2) hf) hn w
        rw [t2] at this
        exact this

theorem sfloat_nan (n : Int) (hnan : nanB (fb n) = true) (w : World) :
    Calls Tryd.prog 23 #[.int .i64 n] w fun e w' => e = .returned (.float .f64 (nanOf 0 0 w)) ∧ w' = w.drew := by
  rw [nanB_iff] at hnan
  have hle := of_decide_eq_true hnan
  obtain ⟨s, e, f, hs, he, hf, hu⟩ := parts (fb n) (fb_lt n)
  have hn := fb_wrap n
  generalize fb n = u at *
  have e1 : e = 2047 ∧ f ≠ 0 := by clear hn; omega
  have h1 := and_exp hs he hf hu
  have h2 := and_frac hs he hf hu
  obtain ⟨e1, e2⟩ := e1
  obtain ⟨q, x, hq, hd, rx, lx, ha⟩ := frac_q hf
  subst e1
  exact wk_nan n u f q x h1 h2 (bne_0 e2) hq (run_quo hd) nought_by_nought hn w

end Go.Proofs.YtleakieppapjmaaDoor
