/-
  Numbers of the format 'double', plain mathematics: what a rung is worth, that exact results are written exactly, how words are ordered. Own text.
-/
import Ieee.Arith
namespace Go.Proofs.YtleakieppapjmaaDoor
open Ieee

theorem sw_eq : double.signWeight = 9223372036854775808 := rfl
theorem bi_eq : double.binade = 4503599627370496 := rfl
theorem in_eq : double.infRung = 9218868437227405312 := rfl
theorem lp_eq : double.leastPlace = -1074 := rfl
theorem fb_eq : double.fractionBits = 52 := rfl

/-- The places below the point of a unit. -/
def KK : Nat := 1074
theorem kk : KK = 1074 := rfl
/-- The significand of a rung. -/
def mg (r : Nat) : Nat := if r < 4503599627370496 then r else 4503599627370496 + r % 4503599627370496
/-- Its place above the least one. -/
def ex (r : Nat) : Nat := if r < 4503599627370496 then 0 else r / 4503599627370496 - 1
/-- What a rung is worth, in units of 2^-1074. -/
def rv (r : Nat) : Nat := mg r * 2 ^ ex r

theorem mg_ex (r : Nat) : ex r * 4503599627370496 + mg r = r := by
  unfold ex mg; split <;> omega
theorem mg_lt (r : Nat) : mg r < 9007199254740992 := by unfold mg; split <;> omega
theorem mg_ge {r : Nat} (h : 4503599627370496 ≤ r) : 4503599627370496 ≤ mg r := by unfold mg; split <;> omega
theorem ex_zero {r : Nat} (h : r < 4503599627370496) : ex r = 0 := by unfold ex; simp [h]
theorem mg_small {r : Nat} (h : r < 4503599627370496) : mg r = r := by unfold mg; simp [h]
theorem ex_pos {r : Nat} (h : 0 < ex r) : 4503599627370496 ≤ r := by
  rcases Nat.lt_or_ge r 4503599627370496 with a | a
  · rw [ex_zero a] at h; omega
  · exact a
theorem p52 : (2 : Nat) ^ 52 = 4503599627370496 := rfl
theorem p53 : (2 : Nat) ^ 53 = 9007199254740992 := rfl

theorem read_word (neg : Bool) {r : Nat} (hr : r < 9218868437227405312) :
    double.read (double.word neg r) = .number neg (mg r) (-1074 + (ex r : Int)) := by
  have h1 : double.word neg r / 9223372036854775808 % 2 = neg.toNat := by
    unfold Format.word; rw [sw_eq]; cases neg <;> simp <;> omega
  have h2 : double.word neg r % 9223372036854775808 = r := by
    unfold Format.word; rw [sw_eq]; cases neg <;> simp <;> omega
  unfold Format.read
  simp only [sw_eq, bi_eq, in_eq, lp_eq, h1, h2]
  have h3 : (neg.toNat == 1) = neg := by cases neg <;> rfl
  rw [h3]
  unfold mg ex
  split
  · simp
  · simp

theorem read_pos {r : Nat} (hr : r < 9218868437227405312) : double.read r = .number false (mg r) (-1074 + (ex r : Int)) := read_word false hr

theorem cut_even (neg : Bool) (m d : Nat) : Toward.even.cut neg (m * 2 ^ d) d = m := by
  unfold Toward.cut
  rcases Nat.eq_zero_or_pos m with rfl | hm
  · have : 0 < 2 ^ (min d 2) := Nat.two_pow_pos _
    simp [Nat.shiftLeft_eq]
  · have hne : m * 2 ^ d ≠ 0 := Nat.mul_ne_zero (by omega) (by have := Nat.two_pow_pos d; omega)
    have hl : d ≤ (m * 2 ^ d).log2 := (Nat.le_log2 hne).2 (Nat.le_mul_of_pos_left _ hm)
    have hp := Nat.two_pow_pos d
    have e : min d ((m * 2 ^ d).log2 + 2) = d := by omega
    simp only [e, Nat.shiftLeft_eq, Nat.one_mul]
    have e1 : m * 2 ^ d / 2 ^ d = m := Nat.mul_div_cancel _ hp
    have e2 : m * 2 ^ d % 2 ^ d = 0 := Nat.mul_mod_left _ _
    simp only [e1, e2]
    have e3 : decide (2 ^ d < 2 * 0) = false := by simp
    have e4 : (2 ^ d == 2 * 0) = false := by simp
    rw [e3, e4]; simp

theorem cut_zero (neg : Bool) (n d : Nat) : Toward.zero.cut neg n d = n / 2 ^ d := by
  unfold Toward.cut
  simp only [Nat.shiftLeft_eq, Nat.one_mul, Bool.toNat_false, Nat.add_zero]
  rcases Nat.lt_or_ge (n.log2 + 2) d with h | h
  · have e : min d (n.log2 + 2) = n.log2 + 2 := by omega
    have a : n < 2 ^ (n.log2 + 1) := Nat.lt_log2_self
    have b : 2 ^ (n.log2 + 1) ≤ 2 ^ (n.log2 + 2) := Nat.pow_le_pow_right (by omega) (by omega)
    have c : 2 ^ (n.log2 + 2) ≤ 2 ^ d := Nat.pow_le_pow_right (by omega) (by omega)
    rw [e, Nat.div_eq_of_lt (by omega), Nat.div_eq_of_lt (by omega)]
  · have e : min d (n.log2 + 2) = d := by omega
    rw [e]

/-- An exact value is written as its own word. -/
theorem nearest_exact (neg : Bool) (mag : Nat) (place : Int) (r p d : Nat) (hr : r < 9218868437227405312)
    (hpd : (p : Int) - d = place + 1074) (h : mag * 2 ^ p = rv r * 2 ^ d) : double.nearest neg mag place = double.word neg r := by
  unfold Format.nearest
  have hp := Nat.two_pow_pos p
  have hd := Nat.two_pow_pos d
  have hx := Nat.two_pow_pos (ex r)
  have hme := mg_ex r
  split
  · rename_i h0
    subst h0
    have h1 : rv r = 0 := by
      rw [Nat.zero_mul] at h
      rcases Nat.mul_eq_zero.1 h.symm with a | a <;> omega
    have h2 : mg r = 0 := by
      unfold rv at h1
      rcases Nat.mul_eq_zero.1 h1 with a | a <;> omega
    have h3 : r = 0 := by
      rcases Nat.lt_or_ge r 4503599627370496 with a | a
      · rw [mg_small a] at h2; exact h2
      · have := mg_ge a; omega
    rw [h3]
  · rename_i h0
    have hl1 : 2 ^ mag.log2 ≤ mag := Nat.log2_self_le h0
    have hl2 : mag < 2 ^ (mag.log2 + 1) := Nat.lt_log2_self
    have hv : mag * 2 ^ p = mg r * 2 ^ (ex r + d) := by
      rw [h, rv, Nat.pow_add, Nat.mul_assoc]
    have a1 : 2 ^ (mag.log2 + p) ≤ mg r * 2 ^ (ex r + d) := by
      rw [← hv, Nat.pow_add]; exact Nat.mul_le_mul_right _ hl1
    have a2 : mg r * 2 ^ (ex r + d) < 2 ^ (mag.log2 + 1 + p) := by
      rw [← hv, Nat.pow_add _ _ p]; exact Nat.mul_lt_mul_of_pos_right hl2 hp
    have hlast : max (place + mag.log2 - 52) (-1074) = -1074 + (ex r : Int) := by
      rcases Nat.lt_or_ge r 4503599627370496 with a | a
      · have e0 := ex_zero a
        rw [mg_small a] at a1
        have : 2 ^ (mag.log2 + p) < 2 ^ (52 + (ex r + d)) := by
          rw [Nat.pow_add 2 52, p52]
          exact Nat.lt_of_le_of_lt a1 (Nat.mul_lt_mul_of_pos_right a (Nat.two_pow_pos _))
        have := (Nat.pow_lt_pow_iff_right (by omega : 1 < 2)).1 this
        omega
      · have b1 := mg_ge a
        have b2 := mg_lt r
        have c1 : 2 ^ (mag.log2 + p) < 2 ^ (53 + (ex r + d)) := by
          rw [Nat.pow_add 2 53, p53]
          exact Nat.lt_of_le_of_lt a1 (Nat.mul_lt_mul_of_pos_right b2 (Nat.two_pow_pos _))
        have c2 : 2 ^ (52 + (ex r + d)) < 2 ^ (mag.log2 + 1 + p) := by
          rw [Nat.pow_add 2 52, p52]
          exact Nat.lt_of_le_of_lt (Nat.mul_le_mul_right _ b1) a2
        have := (Nat.pow_lt_pow_iff_right (by omega : 1 < 2)).1 c1
        have := (Nat.pow_lt_pow_iff_right (by omega : 1 < 2)).1 c2
        omega
    simp only [fb_eq, lp_eq, bi_eq, in_eq]
    have hlast' : max (place + (mag.log2 : Int) - ((52 : Nat) : Int)) (-1074) = -1074 + (ex r : Int) := hlast
    rw [hlast']
    have hk : Toward.even.cut neg (mag <<< (place - (-1074 + (ex r : Int))).toNat) ((-1074 + (ex r : Int)) - place).toNat = mg r := by
      rw [Nat.shiftLeft_eq]
      rcases (by omega : place < -1074 + (ex r : Int) ∨ -1074 + (ex r : Int) ≤ place) with a | a
      · obtain ⟨v, hv'⟩ : ∃ v : Nat, ((-1074 + (ex r : Int)) - place).toNat = v := ⟨_, rfl⟩
        have hu : (place - (-1074 + (ex r : Int))).toNat = 0 := by omega
        rw [hu, hv']
        have e : ex r + d = v + p := by omega
        have : mag = mg r * 2 ^ v := by
          rw [e, Nat.pow_add, ← Nat.mul_assoc] at hv
          exact Nat.eq_of_mul_eq_mul_right hp hv
        rw [Nat.pow_zero, Nat.mul_one, this]
        exact cut_even ..
      · obtain ⟨u, hu'⟩ : ∃ u : Nat, (place - (-1074 + (ex r : Int))).toNat = u := ⟨_, rfl⟩
        have hv0 : ((-1074 + (ex r : Int)) - place).toNat = 0 := by omega
        rw [hu', hv0]
        have e : p = u + (ex r + d) := by omega
        have : mag * 2 ^ u = mg r := by
          rw [e, Nat.pow_add, ← Nat.mul_assoc] at hv
          exact Nat.eq_of_mul_eq_mul_right (Nat.two_pow_pos _) hv
        rw [this]
        have := cut_even neg (mg r) 0
        rwa [Nat.pow_zero, Nat.mul_one] at this
    rw [hk]
    have e5 : ((-1074 + (ex r : Int)) - -1074).toNat = ex r := by omega
    rw [e5, hme]
    congr 1
    omega

theorem rv_lt {x y : Nat} (h : x < y) : rv x < rv y := by
  have hx := mg_ex x
  have hy := mg_ex y
  have lx := mg_lt x
  have ly := mg_lt y
  have hex : ex x ≤ ex y := by unfold ex; split <;> split <;> omega
  unfold rv
  rcases Nat.lt_or_ge (ex x) (ex y) with a | a
  · have gy := mg_ge (ex_pos (by omega : 0 < ex y))
    obtain ⟨k, hk⟩ : ∃ k, ex y = ex x + 1 + k := ⟨ex y - (ex x + 1), by omega⟩
    have p0 := Nat.two_pow_pos (ex x)
    have p1 := Nat.two_pow_pos k
    calc mg x * 2 ^ ex x < 9007199254740992 * 2 ^ ex x := Nat.mul_lt_mul_of_pos_right lx p0
      _ = 4503599627370496 * 2 ^ (ex x + 1) := by rw [Nat.pow_succ]; omega
      _ ≤ mg y * 2 ^ (ex x + 1) := Nat.mul_le_mul_right _ gy
      _ ≤ mg y * 2 ^ ex y := Nat.mul_le_mul_left _ (Nat.pow_le_pow_right (by omega) (by omega))
  · have e : ex x = ex y := by omega
    rw [e] at hx ⊢
    exact Nat.mul_lt_mul_of_pos_right (by omega) (Nat.two_pow_pos _)

theorem rv_inj {x y : Nat} (h : rv x = rv y) : x = y := by
  rcases Nat.lt_trichotomy x y with a | a | a
  · have := rv_lt a; omega
  · exact a
  · have := rv_lt a; omega
theorem rv_le {x y : Nat} (h : x ≤ y) : rv x ≤ rv y := by
  rcases Nat.eq_or_lt_of_le h with rfl | a
  · exact Nat.le_refl _
  · exact Nat.le_of_lt (rv_lt a)
theorem lt_of_rv {x y : Nat} (h : rv x < rv y) : x < y := by
  rcases Nat.lt_or_ge x y with a | a
  · exact a
  · have := rv_le a; omega

theorem rv_small {r : Nat} (h : r < 4503599627370496) : rv r = r := by
  unfold rv; rw [mg_small h, ex_zero h]; simp
theorem rv_mk {E f : Nat} (hf : f < 4503599627370496) (hE : 1 ≤ E) : rv (E * 4503599627370496 + f) = (4503599627370496 + f) * 2 ^ (E - 1) := by
  unfold rv mg ex
  have h : ¬ E * 4503599627370496 + f < 4503599627370496 := by omega
  have e1 : (E * 4503599627370496 + f) % 4503599627370496 = f := by omega
  have e2 : (E * 4503599627370496 + f) / 4503599627370496 = E := by omega
  simp only [h, if_false, e1, e2]
theorem rv_add {r : Nat} (h : 4503599627370496 ≤ r) (p : Nat) : rv (r + p * 4503599627370496) = rv r * 2 ^ p := by
  have e : r = (r / 4503599627370496) * 4503599627370496 + r % 4503599627370496 := by omega
  have e' : r + p * 4503599627370496 = (r / 4503599627370496 + p) * 4503599627370496 + r % 4503599627370496 := by omega
  have e3 : r / 4503599627370496 + p - 1 = (r / 4503599627370496 - 1) + p := by omega
  rw [e', rv_mk (by omega) (by omega), e3, Nat.pow_add, ← Nat.mul_assoc]
  congr 1
  conv => rhs; rw [e, rv_mk (by omega) (by omega)]

/-- Every number of at most 53 bits has a rung at each place. -/
theorem rung_of (M : Nat) (hM : M < 9007199254740992) (k : Nat) : ∃ q, rv q = M * 2 ^ k ∧ q < (k + 2) * 4503599627370496 := by
  induction k with
  | zero =>
    refine ⟨M, ?_, by omega⟩
    rcases Nat.lt_or_ge M 4503599627370496 with a | a
    · rw [rv_small a]; simp
    · have := @rv_mk 1 (M - 4503599627370496) (by omega) (by omega)
      rw [show 1 * 4503599627370496 + (M - 4503599627370496) = M by omega] at this
      rw [this]
  | succ k ih =>
    obtain ⟨q, hq, hl⟩ := ih
    rcases Nat.lt_or_ge q 4503599627370496 with a | a
    · refine ⟨2 * q, ?_, by omega⟩
      rw [rv_small a] at hq
      rw [Nat.pow_succ, ← Nat.mul_assoc, ← hq]
      rcases Nat.lt_or_ge (2 * q) 4503599627370496 with b | b
      · rw [rv_small b]; omega
      · have := @rv_mk 1 (2 * q - 4503599627370496) (by omega) (by omega)
        rw [show 1 * 4503599627370496 + (2 * q - 4503599627370496) = 2 * q by omega] at this
        rw [this]; simp; omega
    · refine ⟨q + 1 * 4503599627370496, ?_, by omega⟩
      rw [rv_add a, hq, Nat.pow_one, Nat.pow_succ, Nat.mul_assoc]

theorem mul_exact {x y z : Nat} (hx : x < 9218868437227405312) (hy : y < 9218868437227405312) (hz : z < 9218868437227405312)
    (h : rv x * rv y = rv z * 2 ^ KK) : double.mul x y = some z := by
  unfold Format.mul
  rw [read_pos hx, read_pos hy]
  simp only [Datum.product, Option.map_some, Format.write, Bool.xor_false]
  refine congrArg some (nearest_exact false _ _ z (ex x + ex y) KK hz (by have := kk; omega) ?_)
  rw [← h, rv, rv, Nat.pow_add]
  simp only [Nat.mul_assoc, Nat.mul_left_comm, Nat.mul_comm]

theorem div_pow {x z : Nat} (q : Nat) (hq : q ≤ 1023) (hx : x < 9218868437227405312) (hz : z < 9218868437227405312)
    (h : rv x = rv z * 2 ^ q) : double.div x ((1023 + q) * 4503599627370496) = some z := by
  have hy : (1023 + q) * 4503599627370496 < 9218868437227405312 := by omega
  have my : mg ((1023 + q) * 4503599627370496) = 4503599627370496 := by unfold mg; split <;> omega
  have ey : ex ((1023 + q) * 4503599627370496) = 1022 + q := by unfold ex; split <;> omega
  unfold Format.div
  rw [read_pos hx, read_pos hy, my, ey]
  have hn : ¬ (4503599627370496 : Nat) = 0 := by omega
  have l2 : Nat.log2 4503599627370496 = 52 := by rw [← p52]; exact Nat.log2_two_pow
  have lm : (mg x).log2 < 53 := by
    rcases Nat.eq_zero_or_pos (mg x) with e | e
    · rw [e]; decide
    · exact (Nat.log2_lt (by omega)).2 (by rw [p53]; exact mg_lt x)
  simp only [Datum.quotient, hn, if_false, Option.map_some, Format.write, Bool.xor_false, fb_eq, l2, Nat.shiftLeft_eq]
  obtain ⟨c, hc⟩ : ∃ c, 52 + 2 + 52 - (mg x).log2 = c + 52 := ⟨54 - (mg x).log2, by omega⟩
  have hc1 : 1 ≤ c := by omega
  rw [hc]
  have e1 : mg x * 2 ^ (c + 52) / 4503599627370496 = mg x * 2 ^ c := by
    rw [Nat.pow_add, p52, ← Nat.mul_assoc]; exact Nat.mul_div_cancel _ (by omega)
  have e2 : mg x * 2 ^ (c + 52) % 4503599627370496 = 0 := by
    rw [Nat.pow_add, p52, ← Nat.mul_assoc]; exact Nat.mul_mod_left _ _
  rw [e1, e2]
  simp only [bne_self_eq_false, Bool.toNat_false, Nat.add_zero]
  refine congrArg some (nearest_exact false _ _ z (ex x) (c + 1 + q) hz (by omega) ?_)
  have : rv z * 2 ^ (c + 1 + q) = rv x * 2 ^ (c + 1) := by rw [h, Nat.pow_add 2 (c + 1) q, Nat.mul_assoc, Nat.mul_comm (2 ^ q)]
  rw [this, rv, Nat.pow_succ]
  simp only [Nat.mul_assoc, Nat.mul_left_comm, Nat.mul_comm]

theorem add_exact {x y z : Nat} (hx : x < 9218868437227405312) (hy : y < 9218868437227405312) (hz : z < 9218868437227405312)
    (h : rv x + rv y = rv z) : double.add x y = some z := by
  unfold Format.add
  rw [read_pos hx, read_pos hy]
  simp only [Datum.sum, signed, Bool.false_eq_true, if_false, Option.map_some, Format.write, Nat.shiftLeft_eq]
  obtain ⟨b, hb⟩ : ∃ b : Nat, min (ex x) (ex y) = b := ⟨_, rfl⟩
  have hmin : min (-1074 + (ex x : Int)) (-1074 + (ex y : Int)) = -1074 + (b : Int) := by omega
  have e1 : ((-1074 + (ex x : Int)) - (-1074 + (b : Int))).toNat = ex x - b := by omega
  have e2 : ((-1074 + (ex y : Int)) - (-1074 + (b : Int))).toNat = ex y - b := by omega
  rw [hmin, e1, e2]
  have rx : rv x = mg x * 2 ^ (ex x - b) * 2 ^ b := by rw [Nat.mul_assoc, ← Nat.pow_add, show ex x - b + b = ex x by omega, rv]
  have ry : rv y = mg y * 2 ^ (ex y - b) * 2 ^ b := by rw [Nat.mul_assoc, ← Nat.pow_add, show ex y - b + b = ex y by omega, rv]
  generalize mg x * 2 ^ (ex x - b) = u at *
  generalize mg y * 2 ^ (ex y - b) = v at *
  have e3 : ((u : Int) + (v : Int)).natAbs = u + v := by omega
  have e4 : (if (u : Int) + (v : Int) = 0 then (false && false) else decide ((u : Int) + (v : Int) < 0)) = false := by
    split
    · rfl
    · simp; omega
  rw [e3, e4]
  refine congrArg some (nearest_exact false _ _ z b 0 hz (by omega) ?_)
  rw [← h, Nat.add_mul, ← rx, ← ry, Nat.pow_zero, Nat.mul_one]

theorem sub_exact {x y z : Nat} (hx : x < 9218868437227405312) (hy : y < 9218868437227405312) (hz : z < 9218868437227405312)
    (h : rv x = rv y + rv z) : double.sub x y = some z := by
  unfold Format.sub
  rw [read_pos hx, read_pos hy]
  simp only [Datum.opposite, Datum.sum, signed, Bool.false_eq_true, Bool.not_false, if_false, if_true, Option.map_some, Format.write, Nat.shiftLeft_eq]
  obtain ⟨b, hb⟩ : ∃ b : Nat, min (ex x) (ex y) = b := ⟨_, rfl⟩
  have hmin : min (-1074 + (ex x : Int)) (-1074 + (ex y : Int)) = -1074 + (b : Int) := by omega
  have e1 : ((-1074 + (ex x : Int)) - (-1074 + (b : Int))).toNat = ex x - b := by omega
  have e2 : ((-1074 + (ex y : Int)) - (-1074 + (b : Int))).toNat = ex y - b := by omega
  rw [hmin, e1, e2]
  have hpb := Nat.two_pow_pos b
  have rx : rv x = mg x * 2 ^ (ex x - b) * 2 ^ b := by rw [Nat.mul_assoc, ← Nat.pow_add, show ex x - b + b = ex x by omega, rv]
  have ry : rv y = mg y * 2 ^ (ex y - b) * 2 ^ b := by rw [Nat.mul_assoc, ← Nat.pow_add, show ex y - b + b = ex y by omega, rv]
  have hle : mg y * 2 ^ (ex y - b) ≤ mg x * 2 ^ (ex x - b) := by
    refine Nat.le_of_mul_le_mul_right ?_ hpb
    rw [← rx, ← ry]; omega
  generalize mg x * 2 ^ (ex x - b) = u at *
  generalize mg y * 2 ^ (ex y - b) = v at *
  have e3 : ((u : Int) + -(v : Int)).natAbs = u - v := by omega
  have e4 : (if (u : Int) + -(v : Int) = 0 then (false && true) else decide ((u : Int) + -(v : Int) < 0)) = false := by
    split
    · rfl
    · simp; omega
  rw [e3, e4]
  refine congrArg some (nearest_exact false _ _ z b 0 hz (by omega) ?_)
  have : u * 2 ^ b = v * 2 ^ b + rv z := by rw [← rx, ← ry]; exact h
  rw [Nat.sub_mul]; simp; omega

/-- A value with its sign. -/
def sg (s : Bool) (n : Nat) : Int := if s then -(n : Int) else n

theorem compare_scale (a c : Int) (k : Nat) : compare (a * ((2 ^ k : Nat) : Int)) (c * ((2 ^ k : Nat) : Int)) = compare a c := by
  have hp : (0 : Int) < ((2 ^ k : Nat) : Int) := by have := Nat.two_pow_pos k; omega
  rcases Int.lt_trichotomy a c with h | h | h
  · rw [Int.compare_eq_lt.2 h, Int.compare_eq_lt.2 (Int.mul_lt_mul_of_pos_right h hp)]
  · subst h; rw [Int.compare_eq_eq.2 rfl, Int.compare_eq_eq.2 rfl]
  · rw [Int.compare_eq_gt.2 h, Int.compare_eq_gt.2 (Int.mul_lt_mul_of_pos_right h hp)]

theorem order_word (s t : Bool) {x y : Nat} (hx : x < 9218868437227405312) (hy : y < 9218868437227405312) :
    double.order (double.word s x) (double.word t y) = some (compare (sg s (rv x)) (sg t (rv y))) := by
  unfold Format.order
  rw [read_word s hx, read_word t hy]
  simp only [Datum.order, signed, Nat.shiftLeft_eq]
  obtain ⟨b, hb⟩ : ∃ b : Nat, min (ex x) (ex y) = b := ⟨_, rfl⟩
  have hmin : min (-1074 + (ex x : Int)) (-1074 + (ex y : Int)) = -1074 + (b : Int) := by omega
  have e1 : ((-1074 + (ex x : Int)) - (-1074 + (b : Int))).toNat = ex x - b := by omega
  have e2 : ((-1074 + (ex y : Int)) - (-1074 + (b : Int))).toNat = ex y - b := by omega
  rw [hmin, e1, e2]
  have rx : rv x = mg x * 2 ^ (ex x - b) * 2 ^ b := by rw [Nat.mul_assoc, ← Nat.pow_add, show ex x - b + b = ex x by omega, rv]
  have ry : rv y = mg y * 2 ^ (ex y - b) * 2 ^ b := by rw [Nat.mul_assoc, ← Nat.pow_add, show ex y - b + b = ex y by omega, rv]
  have sx : sg s (rv x) = sg s (mg x * 2 ^ (ex x - b)) * ((2 ^ b : Nat) : Int) := by
    rw [rx]; unfold sg; cases s <;> simp [Int.neg_mul]
  have sy : sg t (rv y) = sg t (mg y * 2 ^ (ex y - b)) * ((2 ^ b : Nat) : Int) := by
    rw [ry]; unfold sg; cases t <;> simp [Int.neg_mul]
  rw [sx, sy, compare_scale]; rfl

theorem div_shift (m e K : Nat) (i : Int) (hi : i = (e : Int) - K) : m * 2 ^ i.toNat / 2 ^ (-i).toNat = m * 2 ^ e / 2 ^ K := by
  rcases Nat.lt_or_ge e K with a | a
  · have e1 : i.toNat = 0 := by omega
    have e2 : (-i).toNat = K - e := by omega
    have e3 : 2 ^ K = 2 ^ (K - e) * 2 ^ e := by rw [← Nat.pow_add, Nat.sub_add_cancel (by omega)]
    rw [e1, e2, e3, Nat.mul_div_mul_right _ _ (Nat.two_pow_pos _), Nat.pow_zero, Nat.mul_one]
  · have e1 : i.toNat = e - K := by omega
    have e2 : (-i).toNat = 0 := by omega
    have e3 : 2 ^ e = 2 ^ (e - K) * 2 ^ K := by rw [← Nat.pow_add, Nat.sub_add_cancel (by omega)]
    rw [e1, e2, e3, ← Nat.mul_assoc, Nat.mul_div_cancel _ (Nat.two_pow_pos _), Nat.pow_zero, Nat.div_one]

theorem toInt_word (s : Bool) {x : Nat} (hx : x < 9218868437227405312) :
    (double.read (double.word s x)).toInt .zero = some (sg s (rv x / 2 ^ KK)) := by
  rw [read_word s hx]
  simp only [Datum.toInt, Datum.integral, signed, cut_zero, Nat.shiftLeft_eq, Nat.pow_zero, Nat.mul_one]
  rw [div_shift (mg x) (ex x) KK (-1074 + (ex x : Int)) (by have := kk; omega)]; rfl

end Go.Proofs.YtleakieppapjmaaDoor
