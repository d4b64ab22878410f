/- Walks over the float functions of impl. -/
import Derived.Test.YtleakieppapjmaaDoorProg
import Derived.Test.YtleakieppapjmaaDoorNum2
import Derived.WalkKit
import Derived.WalkSpells
import Derived.WalkLawsBesides
namespace Go.Proofs.YtleakieppapjmaaDoor
open Go.RowKit

/-- No number: it isn't the same as itself. -/
def nanB (b : Nat) : Bool := FloatKind.f64.format.order b b != some .eq
/-- The bits of an int. -/
def fb (n : Int) : Nat := (IntKind.u64.wrap n).toNat
/-- The int of bits, all that are no number being one. -/
def cb (b : Nat) : Int := if nanB b then 9221120237041090561 else wrap64 b

theorem cb_nan {b : Nat} (h : nanB b = true) : cb b = 9221120237041090561 := by unfold cb; rw [if_pos h]
theorem cb_num {b : Nat} (h : nanB b = false) : cb b = wrap64 b := by unfold cb; rw [if_neg (by rw [h]; exact Bool.false_ne_true)]
theorem ret_int {k : IntKind} {a b : Int} (h : a = b) : Ending.returned (.int k a) = .returned (.int k b) := by rw [h]

theorem run_tobits (b : Nat) (w : World) : (callFunc 71 #[.float .f64 b]).run Tryd.prog w = .ok (.value (.int .u64 b)) w := by
  rw [run_callFunc_extern (e := Extern.MathFloatBits.float64bits) Tryd.func71 (by kernel_rfl) (by kernel_rfl) (by kernel_rfl) (by kernel_rfl)]
  rfl
theorem run_frombits (n : Int) (w : World) : (callFunc 72 #[.int .u64 n]).run Tryd.prog w = .ok (.value (.float .f64 n.toNat)) w := by
  rw [run_callFunc_extern (e := Extern.MathFloatBits.float64frombits) Tryd.func72 (by kernel_rfl) (by kernel_rfl) (by kernel_rfl) (by kernel_rfl)]
  rfl

set_option maxHeartbeats 400000 in
theorem isnan_any (b : Nat) (w : World) :
    Calls Tryd.prog 70 #[.float .f64 b] w fun e w' => e = .returned (.bool (nanB b)) ∧ w' = w := by
  go_enter Tryd.func70, Tryd.ntmps70
  go_wp2
  go_ret
  exact ⟨rfl, rfl⟩

set_option maxHeartbeats 400000 in
theorem float_any (n : Int) (w : World) :
    Calls Tryd.prog 53 #[.int .i64 n] w fun e w' => e = .returned (.float .f64 (fb n)) ∧ w' = w := by
  have hd := run_frombits
  go_enter Tryd.func53, Tryd.ntmps53
  go_wp2
  go_ret
  exact ⟨rfl, rfl⟩

set_option maxHeartbeats 400000 in
theorem bits_any (b : Nat) (w : World) :
    Calls Tryd.prog 52 #[.float .f64 b] w fun e w' => e = .returned (.int .i64 (cb b)) ∧ w' = w := by
  have hd := run_tobits
  go_enter Tryd.func52, Tryd.ntmps52
  go_wp2_with (go_at_call 70; refine (isnan_any _ _).mono ?_; rintro e w' ⟨rfl, rfl⟩)
  · rename_i h
    go_ret
    exact ⟨ret_int (cb_nan h).symm, rfl⟩
  · rename_i h
    go_ret
    exact ⟨ret_int (cb_num h).symm, rfl⟩

/-- The bits that the tape gives where an operation has no answer. -/
def nanOf (x y : Nat) (w : World) : Nat := (Question.nanBits .f64 x y).cut (w.tape w.drawn (Question.nanBits .f64 x y))
def arN (op : BinOp) (x y : Nat) (w : World) : Nat := match floatBits op .f64 x y with | some r => r | none => nanOf x y w
def arW (op : BinOp) (x y : Nat) (w : World) : World := match floatBits op .f64 x y with | some _ => w | none => w.drew

theorem run_ar (op : BinOp) (hop : op = .add ∨ op = .sub ∨ op = .mul ∨ op = .quo) (t : TypeId) (x y : Nat) (w : World) :
    (binOp op t (.float .f64 x) (.float .f64 y)).run Tryd.prog w = .ok (.float .f64 (arN op x y w)) (arW op x y w) := by
  rcases hf : floatBits op .f64 x y with _ | r
  · have e1 : arN op x y w = nanOf x y w := by unfold arN; rw [hf]
    have e2 : arW op x y w = w.drew := by unfold arW; rw [hf]
    rw [e1, e2]
    unfold floatBits at hf
    rcases hop with rfl | rfl | rfl | rfl <;> simp only at hf <;> simp [binOp, Op.floatArith, hf, nanOf, Question.forced]
  · have e1 : arN op x y w = r := by unfold arN; rw [hf]
    have e2 : arW op x y w = w := by unfold arW; rw [hf]
    rw [e1, e2]
    exact run_float_arith w op t .f64 x y r hf

theorem nanOf_eq (x y : Nat) (w : World) : ∃ a c, a < 2 ∧ c < 4503599627370495 ∧ nanOf x y w = a * 9223372036854775808 + 9218868437227405312 + 1 + c := by
  unfold nanOf Question.cut
  dsimp only
  generalize w.tape w.drawn (Question.nanBits .f64 x y) = t
  exact ⟨t % 2, t / 2 % (2 ^ 52 - 1), Nat.mod_lt _ (by decide), Nat.mod_lt _ (by decide), rfl⟩
theorem nanOf_lt (x y : Nat) (w : World) : nanOf x y w < 18446744073709551616 := by
  obtain ⟨a, c, ha, hc, h⟩ := nanOf_eq x y w
  omega

theorem nanB_of {b : Nat} (hb : 9218868437227405312 < b % 9223372036854775808) : nanB b = true := by
  obtain ⟨s, f, h⟩ := read_nan hb
  unfold nanB
  show (Ieee.double.order b b != some .eq) = true
  unfold Ieee.Format.order
  rw [h]; rfl
theorem nanOf_nan (x y : Nat) (w : World) : nanB (nanOf x y w) = true := by
  obtain ⟨a, c, ha, hc, h⟩ := nanOf_eq x y w
  exact nanB_of (by omega)

theorem run_quo {x y z : Nat} (h : Ieee.double.div x y = some z) (w : World) : (binOp .quo 46 (.float .f64 x) (.float .f64 y)).run Tryd.prog w = .ok (.float .f64 z) w :=
  run_float_arith w .quo 46 .f64 x y z h
theorem run_mul {x y z : Nat} (h : Ieee.double.mul x y = some z) (w : World) : (binOp .mul 46 (.float .f64 x) (.float .f64 y)).run Tryd.prog w = .ok (.float .f64 z) w :=
  run_float_arith w .mul 46 .f64 x y z h
theorem run_add {x y z : Nat} (h : Ieee.double.add x y = some z) (w : World) : (binOp .add 46 (.float .f64 x) (.float .f64 y)).run Tryd.prog w = .ok (.float .f64 z) w :=
  run_float_arith w .add 46 .f64 x y z h
theorem run_sub {x y z : Nat} (h : Ieee.double.sub x y = some z) (w : World) : (binOp .sub 46 (.float .f64 x) (.float .f64 y)).run Tryd.prog w = .ok (.float .f64 z) w :=
  run_float_arith w .sub 46 .f64 x y z h
theorem neg_float (x : Nat) : Op.unary .neg (.float .f64 x) = pure (.float .f64 (x ^^^ 2 ^ 63)) := rfl

theorem and_exp {u s e f : Nat} (hs : s < 2) (he : e < 2048) (hf : f < 4503599627370496) (hu : u = s * 9223372036854775808 + e * 4503599627370496 + f) :
    bits .and .u64 ((u : Int) / 4503599627370496) 2047 = (e : Int) := by
  have h1 : ((u : Int) / 4503599627370496) = ((s * 2048 + e : Nat) : Int) := by omega
  rw [h1, show (2047 : Int) = ((2047 : Nat) : Int) from rfl, u64_and_nat _ _ (by omega) (by omega)]
  have := Nat.and_two_pow_sub_one_eq_mod (s * 2048 + e) 11
  rw [show (2 : Nat) ^ 11 - 1 = 2047 from rfl] at this
  rw [this]; omega
theorem and_frac {u s e f : Nat} (hs : s < 2) (he : e < 2048) (hf : f < 4503599627370496) (hu : u = s * 9223372036854775808 + e * 4503599627370496 + f) :
    bits .and .u64 (u : Int) 4503599627370495 = (f : Int) := by
  rw [show (4503599627370495 : Int) = ((4503599627370495 : Nat) : Int) from rfl, u64_and_nat _ _ (by omega) (by omega)]
  have := Nat.and_two_pow_sub_one_eq_mod u 52
  rw [show (2 : Nat) ^ 52 - 1 = 4503599627370495 from rfl] at this
  rw [this]; omega

theorem kk_int : ((KK : Nat) : Int) - ((0 : Nat) : Int) = 0 + 1074 := by rw [kk]; rfl
theorem float_int {f : Nat} (hf : f < 9007199254740992) : ∃ q, floatOfInt .f64 (f : Int) = q ∧ rv q = f * 2 ^ KK ∧ q < 9218868437227405312 := by
  obtain ⟨q, hq, hl⟩ := rung_of f hf KK
  have hl' : q < 9218868437227405312 := by clear hq; rw [kk] at hl; omega
  refine ⟨q, ?_, hq, hl'⟩
  show Ieee.double.nearest (decide ((f : Int) < 0)) (f : Int).natAbs 0 = q
  have e : decide ((f : Int) < 0) = false := decide_eq_false (by clear hq; omega)
  rw [e]
  exact nearest_exact false _ 0 q KK 0 hl' kk_int (by rw [hq, Nat.pow_zero, Nat.mul_one, Int.natAbs_natCast])

/-- The places of a small number above the least one. -/
def KL : Nat := 1022
theorem kl : KL = 1022 := rfl
theorem kl_kk : KL + 52 = KK := rfl
/-- 'frac / 2^52', and with 1 on top. -/
theorem frac_q {f : Nat} (hf : f < 4503599627370496) : ∃ q x, floatOfInt .f64 (f : Int) = q ∧ Ieee.double.div q 4841369599423283200 = some x ∧ rv x = f * 2 ^ KL ∧ x < 9218868437227405312 ∧
    Ieee.double.add x 4607182418800017408 = some (4607182418800017408 + f) := by
  obtain ⟨q, hq, rq, lq⟩ := float_int (f := f) (by omega)
  obtain ⟨x, hx, lx⟩ := rung_of f (by omega) KL
  have lx' : x < 9218868437227405312 := by clear hx rq; rw [kl] at lx; omega
  refine ⟨q, x, hq, ?_, hx, lx', ?_⟩
  · refine div_pow 52 (by omega) lq lx' ?_
    rw [rq, hx, Nat.mul_assoc, ← Nat.pow_add, kl_kk]
  · refine add_exact lx' (by omega) (by clear hx rq; omega) ?_
    have e1 := @rv_mk 1023 0 (by omega) (by omega)
    have e2 := @rv_mk 1023 f hf (by omega)
    rw [Nat.add_zero, Nat.add_zero] at e1
    rw [show 1023 - 1 = KL from rfl] at e1 e2
    rw [show (4607182418800017408 : Nat) = 1023 * 4503599627370496 from rfl, e2, hx, e1, ← Nat.add_mul, Nat.add_comm]

end Go.Proofs.YtleakieppapjmaaDoor
