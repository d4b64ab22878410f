/- Ints of floats and back: plain facts. -/
import Derived.Test.YtedhmidodcbegaaA1
namespace Go.Proofs.Ytedhmidodcbegaa
open Ieee

/-- A float's whole part and the rest are floats. -/
theorem whole_rest {r : Nat} (hr : r < 9218868437227405312) : ∃ q z, q < 9218868437227405312 ∧ z < 9218868437227405312 ∧ rv q = rv r / 2 ^ KK * 2 ^ KK ∧ rv z = rv r % 2 ^ KK := by
  rcases Nat.lt_or_ge (ex r) KK with h | h
  · obtain ⟨c, hc⟩ : ∃ c, KK = c + ex r := ⟨KK - ex r, by omega⟩
    have e1 : rv r / 2 ^ KK = mg r / 2 ^ c := by
      unfold rv
      rw [hc, Nat.pow_add, Nat.mul_div_mul_right _ _ (Nat.two_pow_pos _)]
    have e2 : rv r % 2 ^ KK = mg r % 2 ^ c * 2 ^ ex r := by
      unfold rv
      rw [hc, Nat.pow_add, Nat.mul_mod_mul_right]
    have m1 : mg r / 2 ^ c < 9007199254740992 := Nat.lt_of_le_of_lt (Nat.div_le_self _ _) (mg_lt r)
    have m2 : mg r % 2 ^ c < 9007199254740992 := Nat.lt_of_le_of_lt (Nat.mod_le _ _) (mg_lt r)
    obtain ⟨q, hq, _⟩ := rung_of _ m1 KK
    obtain ⟨z, hz, _⟩ := rung_of _ m2 (ex r)
    have b1 : rv q ≤ rv r := by rw [hq, ← e1]; exact Nat.div_mul_le_self _ _
    have b2 : rv z ≤ rv r := by rw [hz, ← e2]; exact Nat.mod_le _ _
    have c1 : q ≤ r := by
      rcases Nat.lt_or_ge r q with a | a
      · exact absurd (rv_lt a) (Nat.not_lt.2 b1)
      · exact a
    have c2 : z ≤ r := by
      rcases Nat.lt_or_ge r z with a | a
      · exact absurd (rv_lt a) (Nat.not_lt.2 b2)
      · exact a
    exact ⟨q, z, Nat.lt_of_le_of_lt c1 hr, Nat.lt_of_le_of_lt c2 hr, by rw [hq, e1], by rw [hz, e2]⟩
  · obtain ⟨c, hc⟩ : ∃ c, ex r = c + KK := ⟨ex r - KK, by omega⟩
    have e : rv r = mg r * 2 ^ c * 2 ^ KK := by unfold rv; rw [hc, Nat.pow_add, Nat.mul_assoc]
    refine ⟨r, 0, hr, zI, ?_, ?_⟩
    · rw [e, Nat.mul_div_cancel _ (Nat.two_pow_pos _)]
    · rw [e, Nat.mul_mod_left, rv_small zB]

theorem sub_gen (s t : Bool) {r q z : Nat} (hr : r < 9218868437227405312) (hq : q < 9218868437227405312) (hz : z < 9218868437227405312)
    (h : (sg s (rv r) - sg t (rv q)).natAbs = rv z) : ∃ v, double.sub (double.word s r) (double.word t q) = some (double.word v z) := by
  unfold Format.sub
  rw [read_word s hr, read_word t hq]
  simp only [Datum.opposite, Datum.sum, Option.map_some, Format.write]
  obtain ⟨b, hb⟩ : ∃ b : Nat, min (ex r) (ex q) = b := ⟨_, rfl⟩
  have hmin : min (-1074 + (ex r : Int)) (-1074 + (ex q : Int)) = -1074 + (b : Int) := by omega
  have e1 : ((-1074 + (ex r : Int)) - (-1074 + (b : Int))).toNat = ex r - b := by omega
  have e2 : ((-1074 + (ex q : Int)) - (-1074 + (b : Int))).toNat = ex q - b := by omega
  rw [hmin, e1, e2]
  have rx : rv r = mg r * 2 ^ (ex r - b) * 2 ^ b := by rw [Nat.mul_assoc, ← Nat.pow_add, show ex r - b + b = ex r by omega, rv]
  have ry : rv q = mg q * 2 ^ (ex q - b) * 2 ^ b := by rw [Nat.mul_assoc, ← Nat.pow_add, show ex q - b + b = ex q by omega, rv]
  have s1 : signed s (mg r) (ex r - b) = sg s (mg r * 2 ^ (ex r - b)) := by unfold signed sg; rw [Nat.shiftLeft_eq]
  have s2 : signed (!t) (mg q) (ex q - b) = - sg t (mg q * 2 ^ (ex q - b)) := by
    unfold signed sg; rw [Nat.shiftLeft_eq]; cases t <;> simp
  have sx : sg s (rv r) = sg s (mg r * 2 ^ (ex r - b)) * ((2 ^ b : Nat) : Int) := by
    rw [rx]; unfold sg; cases s <;> simp [Int.neg_mul]
  have sy : sg t (rv q) = sg t (mg q * 2 ^ (ex q - b)) * ((2 ^ b : Nat) : Int) := by
    rw [ry]; unfold sg; cases t <;> simp [Int.neg_mul]
  rw [s1, s2]
  refine ⟨_, congrArg some (nearest_exact _ _ _ z b 0 hz (by omega) ?_)⟩
  rw [Nat.pow_zero, Nat.mul_one, ← h, sx, sy, ← Int.sub_mul, Int.natAbs_mul, Int.natAbs_natCast, ← Int.sub_eq_add_neg]

theorem ord_one {v : Bool} {z : Nat} (hz : z < 9218868437227405312) (h : rv z < 2 ^ KK) :
    (FloatKind.f64.format.order (double.word v z) 4607182418800017408 == some .lt) = true ∧ (FloatKind.f64.format.order (double.word v z) 13830554455654793216 == some .gt) = true := by
  have o1 := order_word v false hz (y := 4607182418800017408) (by decide)
  have o2 := order_word v true hz (y := 4607182418800017408) (by decide)
  have e : rv 4607182418800017408 = 2 ^ KK := by
    have := rv_pow 0
    rw [Nat.add_zero, Nat.pow_zero, Nat.one_mul] at this
    exact this
  rw [e] at o1 o2
  have o1' : FloatKind.f64.format.order (double.word v z) 4607182418800017408 = some (compare (sg v (rv z)) (sg false (2 ^ KK))) := o1
  have o2' : FloatKind.f64.format.order (double.word v z) 13830554455654793216 = some (compare (sg v (rv z)) (sg true (2 ^ KK))) := o2
  clear o1 o2 e
  have hp := Nat.two_pow_pos KK
  generalize 2 ^ KK = M at *
  generalize rv z = R at *
  have g1 : sg v R < sg false M := by cases v <;> simp only [sg, Bool.false_eq_true, if_false, if_true] <;> omega
  have g2 : sg true M < sg v R := by cases v <;> simp only [sg, Bool.false_eq_true, if_false, if_true] <;> omega
  rw [o1', o2', Int.compare_eq_lt.2 g1, Int.compare_eq_gt.2 g2]
  exact ⟨rfl, rfl⟩

theorem toI_val {s : Bool} {r : Nat} (hr : r < 9218868437227405312) (hx : double.word s r < 18446744073709551616) (hn : nanB (double.word s r) = false)
    (h1 : (FloatKind.f64.format.order (double.word s r) 4890909195324358656 == some .gt || FloatKind.f64.format.order (double.word s r) 4890909195324358656 == some .eq) = false)
    (h2 : (FloatKind.f64.format.order (double.word s r) 14114281232179134464 == some .lt) = false) : toI (double.word s r) = sg s (rv r / 2 ^ KK) := by
  obtain ⟨v, hv⟩ := toint_fits hx hn h1 h2
  have ht : (FloatKind.f64.decode (double.word s r)).toInt .zero = some (sg s (rv r / 2 ^ KK)) := toInt_word s hr
  have : v = sg s (rv r / 2 ^ KK) := by
    unfold floatToIntVal at hv
    rw [ht] at hv
    simp only at hv
    split at hv
    · exact (Option.some.inj hv).symm
    · cases hv
  unfold toI
  rw [if_neg (by rw [hn]; decide), if_neg (by rw [h1]; decide), if_neg (by rw [h2]; decide), hv, this]; rfl

theorem word_lt {s : Bool} {r : Nat} (hr : r < 9218868437227405312) : double.word s r < 18446744073709551616 := by
  unfold Format.word; rw [sw_eq]; split <;> omega
theorem word_mod {s : Bool} {r : Nat} (hr : r < 9218868437227405312) : double.word s r % 9223372036854775808 = r := by
  unfold Format.word; rw [sw_eq]; split <;> omega
theorem nan_word {s : Bool} {r : Nat} (hr : r < 9218868437227405312) : nanB (double.word s r) = false :=
  nanB_false (word_lt hr) (by rw [word_mod hr]; omega)

theorem int_word (n : Int) {q : Nat} (hq : q < 9218868437227405312) (h : rv q = n.natAbs * 2 ^ KK) : floatOfInt .f64 n = double.word (decide (n < 0)) q :=
  nearest_exact _ _ 0 q KK 0 hq kk_int (by rw [h, Nat.pow_zero, Nat.mul_one])

theorem sg_abs (n : Int) : sg (decide (n < 0)) n.natAbs = n := by
  unfold sg
  by_cases h : n < 0
  · rw [decide_eq_true h, if_pos rfl]; omega
  · rw [decide_eq_false h, if_neg (by decide)]; omega

theorem back_int {n : Int} (h0 : -9007199254740992 ≤ n) (h1 : n ≤ 9007199254740992) : toI (fb (cb (floatOfInt .f64 n))) = n := by
  obtain ⟨q, hq, rq⟩ : ∃ q, q < 9218868437227405312 ∧ rv q = n.natAbs * 2 ^ KK := by
    rcases (by omega : n.natAbs < 9007199254740992 ∨ n.natAbs = 9007199254740992) with a | a
    · obtain ⟨q, hq, hl⟩ := rung_of _ a KK
      exact ⟨q, by clear hq; rw [kk] at hl; omega, hq⟩
    · refine ⟨(1023 + 53) * 4503599627370496, by decide, ?_⟩
      rw [rv_pow, a, p53]
  have hn : n.natAbs ≤ 9007199254740992 := by omega
  rw [int_word n hq rq, fb_cb (word_lt hq) (nan_word hq)]
  have o1 := order_word (decide (n < 0)) false hq (y := 4890909195324358656) (by decide)
  have o2 := order_word (decide (n < 0)) true hq (y := 4890909195324358656) (by decide)
  have hp : rv 4890909195324358656 = 9223372036854775808 * 2 ^ KK := by rw [p63_pos, rv_pow]
  rw [hp, rq] at o1 o2
  have o1' : FloatKind.f64.format.order (double.word (decide (n < 0)) q) 4890909195324358656 = some (compare (sg (decide (n < 0)) (n.natAbs * 2 ^ KK)) (sg false (9223372036854775808 * 2 ^ KK))) := o1
  have o2' : FloatKind.f64.format.order (double.word (decide (n < 0)) q) 14114281232179134464 = some (compare (sg (decide (n < 0)) (n.natAbs * 2 ^ KK)) (sg true (9223372036854775808 * 2 ^ KK))) := o2
  have hle : n.natAbs * 2 ^ KK < 9223372036854775808 * 2 ^ KK := Nat.mul_lt_mul_of_pos_right (by omega) (Nat.two_pow_pos _)
  have g1 : sg (decide (n < 0)) (n.natAbs * 2 ^ KK) < sg false (9223372036854775808 * 2 ^ KK) := by
    generalize n.natAbs * 2 ^ KK = A at *
    generalize 9223372036854775808 * 2 ^ KK = M at *
    clear o1 o2 o1' o2' hp rq
    cases decide (n < 0) <;> simp only [sg, Bool.false_eq_true, if_false, if_true] <;> omega
  have g2 : sg true (9223372036854775808 * 2 ^ KK) < sg (decide (n < 0)) (n.natAbs * 2 ^ KK) := by
    generalize n.natAbs * 2 ^ KK = A at *
    generalize 9223372036854775808 * 2 ^ KK = M at *
    clear o1 o2 o1' o2' hp rq
    cases decide (n < 0) <;> simp only [sg, Bool.false_eq_true, if_false, if_true] <;> omega
  have t := toI_val hq (word_lt hq) (nan_word hq) (by rw [o1', Int.compare_eq_lt.2 g1]; rfl) (by rw [o2', Int.compare_eq_gt.2 g2]; rfl)
  rw [t, rq, Nat.mul_div_cancel _ (Nat.two_pow_pos _), sg_abs]

/-- A float less its whole part. -/
theorem rest_small {x : Nat} (hx : x < 18446744073709551616) (hn : nanB x = false)
    (h1 : (FloatKind.f64.format.order x 4890909195324358656 == some .gt || FloatKind.f64.format.order x 4890909195324358656 == some .eq) = false)
    (h2 : (FloatKind.f64.format.order x 14114281232179134464 == some .lt) = false) :
    ∃ d, double.sub x (floatOfInt .f64 (toI x)) = some d ∧ (FloatKind.f64.format.order d 4607182418800017408 == some .lt) = true ∧ (FloatKind.f64.format.order d 13830554455654793216 == some .gt) = true := by
  have hle : x % 9223372036854775808 ≤ 9218868437227405312 := by
    rcases Nat.lt_or_ge 9218868437227405312 (x % 9223372036854775808) with a | a
    · rw [nanB_of a] at hn; cases hn
    · exact a
  rcases Nat.eq_or_lt_of_le hle with e | l
  · exfalso
    rcases (by omega : x = 9218868437227405312 ∨ x = 18442240474082181120) with e | e
    · rw [e] at h1; revert h1; decide +kernel
    · rw [e] at h2; revert h2; decide +kernel
  · obtain ⟨s, r, hr, hw⟩ : ∃ s r, r < 9218868437227405312 ∧ x = double.word s r := ⟨_, _, l, word_of x hx⟩
    clear hle l
    subst hw
    rw [toI_val hr hx hn h1 h2]
    obtain ⟨q, z, hq, hz, rq, rz⟩ := whole_rest hr
    have hQ : (sg s (rv r / 2 ^ KK)).natAbs = rv r / 2 ^ KK := by
      generalize rv r / 2 ^ KK = Q
      unfold sg; cases s <;> simp
    rw [int_word _ hq (by rw [hQ]; exact rq)]
    have hdm := Nat.div_add_mod' (rv r) (2 ^ KK)
    have key : (sg s (rv r) - sg (decide (sg s (rv r / 2 ^ KK) < 0)) (rv q)).natAbs = rv z := by
      rw [← rq, ← rz] at hdm
      have q0 : rv r / 2 ^ KK = 0 → rv q = 0 := fun h => by rw [rq, h, Nat.zero_mul]
      generalize rv r / 2 ^ KK = Q at *
      generalize rv r = R at *
      generalize rv q = A at *
      generalize rv z = Z at *
      clear rq rz hQ
      cases s
      · have : decide (sg false Q < 0) = false := decide_eq_false (by unfold sg; rw [if_neg (by decide)]; omega)
        rw [this]
        simp only [sg, Bool.false_eq_true, if_false]; omega
      · rcases Nat.eq_zero_or_pos Q with h | h
        · have := q0 h
          subst h
          have : decide (sg true 0 < 0) = false := by decide
          rw [this]
          simp only [sg, Bool.false_eq_true, if_false, if_true]; omega
        · have : decide (sg true Q < 0) = true := decide_eq_true (by unfold sg; rw [if_pos rfl]; omega)
          rw [this]
          simp only [sg, if_true]; omega
    obtain ⟨v, hv⟩ := sub_gen s _ hr hq hz key
    have hlt : rv z < 2 ^ KK := by rw [rz]; exact Nat.mod_lt _ (Nat.two_pow_pos _)
    exact ⟨_, hv, (ord_one hz hlt).1, (ord_one hz hlt).2⟩

end Go.Proofs.Ytedhmidodcbegaa
