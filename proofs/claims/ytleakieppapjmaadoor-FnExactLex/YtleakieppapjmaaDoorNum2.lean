/-
  More on the format 'double': steps of halving and doubling, what a sign flip does, reading back. Own text.
-/
import Derived.Test.YtleakieppapjmaaDoorNum
import Derived.Laws.BitsAllLaws
namespace Go.Proofs.YtleakieppapjmaaDoor
open Ieee

theorem read_eq (w : Nat) : Ieee.double.read w = (if w % 9223372036854775808 < 4503599627370496 then .number (w / 9223372036854775808 % 2 == 1) (w % 9223372036854775808) (-1074)
    else if w % 9223372036854775808 < 9218868437227405312 then .number (w / 9223372036854775808 % 2 == 1) (4503599627370496 + w % 9223372036854775808 % 4503599627370496) (-1074 + (w % 9223372036854775808 / 4503599627370496 - 1 : Nat))
    else if w % 9223372036854775808 = 9218868437227405312 then .infinity (w / 9223372036854775808 % 2 == 1)
    else .nan (w / 9223372036854775808 % 2 == 1) (w % 9223372036854775808 - 9218868437227405312)) := rfl

theorem read_nan {b : Nat} (hb : 9218868437227405312 < b % 9223372036854775808) : ∃ s f, Ieee.double.read b = .nan s f := by
  refine ⟨b / 9223372036854775808 % 2 == 1, b % 9223372036854775808 - 9218868437227405312, ?_⟩
  rw [read_eq, if_neg (by omega), if_neg (by omega), if_neg (by omega)]
theorem read_inf {b : Nat} (hb : b % 9223372036854775808 = 9218868437227405312) : Ieee.double.read b = .infinity (b / 9223372036854775808 % 2 == 1) := by
  rw [read_eq, if_neg (by omega), if_neg (by omega), if_pos hb]
theorem word_of (b : Nat) (hb : b < 18446744073709551616) : b = double.word (b / 9223372036854775808 % 2 == 1) (b % 9223372036854775808) := by
  unfold Format.word
  rw [sw_eq]
  by_cases h : b / 9223372036854775808 % 2 = 1
  · rw [if_pos (by rw [h]; rfl)]; omega
  · rw [if_neg (by simpa using h)]; omega

theorem rv_pow (p : Nat) : rv ((1023 + p) * 4503599627370496) = 2 ^ p * 2 ^ KK := by
  have := @rv_mk (1023 + p) 0 (by omega) (by omega)
  rw [Nat.add_zero, Nat.add_zero] at this
  rw [this, ← p52, ← Nat.pow_add, ← Nat.pow_add]
  congr 1
  have := kk
  omega

theorem xor63 (T : Nat) (h : T < 9223372036854775808) : T ^^^ 2 ^ 63 = T + 9223372036854775808 := by
  have h' : T < 2 ^ 63 := h
  have := Nat.two_pow_add_eq_or_of_lt (i := 63) (b := T) h' 1
  apply Nat.eq_of_testBit_eq
  intro i
  rw [Nat.testBit_xor, show T + 9223372036854775808 = 2 ^ 63 * 1 + T by omega, this, Nat.testBit_or, Nat.mul_one, Nat.testBit_two_pow]
  by_cases hi : 63 = i
  · subst hi; rw [Nat.testBit_lt_two_pow h']; rfl
  · simp [hi]
theorem xor63' (T : Nat) (h : T < 9223372036854775808) : (T + 9223372036854775808) ^^^ 2 ^ 63 = T := by
  rw [← xor63 T h, Nat.xor_assoc, Nat.xor_self, Nat.xor_zero]

theorem mulPow {r : Nat} (p : Nat) (hp : p ≤ 1023) (hr : 4503599627370496 ≤ r) (hz : r + p * 4503599627370496 < 9218868437227405312) :
    double.mul r ((1023 + p) * 4503599627370496) = some (r + p * 4503599627370496) := by
  refine mul_exact (by omega) (by omega) hz ?_
  rw [rv_pow, rv_add hr, Nat.mul_assoc]
theorem mulPow0 (p : Nat) (hp : p ≤ 1023) : double.mul 0 ((1023 + p) * 4503599627370496) = some 0 := by
  refine mul_exact (by omega) (by omega) (by omega) ?_
  have : rv 0 = 0 := rv_small (by omega)
  rw [this, Nat.zero_mul, Nat.zero_mul]

theorem dbl_step {r T k : Nat} (hT : T < 9218868437227405312) (hr : 4503599627370496 ≤ r) (h : rv T = rv r * 2 ^ (k + 1)) :
    double.mul r 4611686018427387904 = some (r + 4503599627370496) ∧ rv T = rv (r + 4503599627370496) * 2 ^ k ∧ r + 4503599627370496 < 9218868437227405312 := by
  have e := rv_add hr 1
  rw [Nat.one_mul, Nat.pow_one] at e
  have h2 : rv T = rv (r + 4503599627370496) * 2 ^ k := by rw [h, e, Nat.pow_succ, Nat.mul_assoc, Nat.mul_comm (2 ^ k)]
  have h3 : r + 4503599627370496 < 9218868437227405312 := by
    have : rv (r + 4503599627370496) ≤ rv T := by rw [h2]; exact Nat.le_mul_of_pos_right _ (Nat.two_pow_pos _)
    rcases Nat.lt_or_ge T (r + 4503599627370496) with a | a
    · have := rv_lt a; omega
    · omega
  have := @mulPow r 1 (by omega) hr (by omega)
  rw [Nat.one_mul] at this
  exact ⟨this, h2, h3⟩

theorem rung_scaled (T j : Nat) : ∃ y, rv y = rv T * 2 ^ j := by
  obtain ⟨y, hy, _⟩ := rung_of (mg T) (mg_lt T) (ex T + j)
  exact ⟨y, by rw [hy, rv, Nat.pow_add, Nat.mul_assoc]⟩

theorem hlf_step {r T j : Nat} (hr : r < 9218868437227405312) (h : rv r = rv T * 2 ^ (j + 1)) :
    ∃ y, double.div r 4611686018427387904 = some y ∧ rv y = rv T * 2 ^ j ∧ y < 9218868437227405312 := by
  obtain ⟨y, hy⟩ := rung_scaled T j
  have h2 : rv r = rv y * 2 ^ 1 := by rw [h, hy, Nat.pow_succ, Nat.mul_assoc, Nat.pow_one]
  have h3 : y ≤ r := by
    rcases Nat.lt_or_ge r y with a | a
    · have := rv_lt a; rw [h2, Nat.pow_one] at this; omega
    · exact a
  exact ⟨y, div_pow 1 (by omega) hr (by omega) h2, hy, by omega⟩

end Go.Proofs.YtleakieppapjmaaDoor
