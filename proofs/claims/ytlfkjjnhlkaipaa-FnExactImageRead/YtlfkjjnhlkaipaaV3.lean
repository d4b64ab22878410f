/- Numbers as the program reads them. -/
import Derived.Test.YtlfkjjnhlkaipaaV2
namespace Go.Proofs.Ytlfkjjnhlkaipaa
open Go.RowKit Go.Lib Go.Maps

/-- What next leaves. -/
def NxP (B R : Nat) (w : World) (n : Int) (t : RS) (e : Ending) (w' : World) : Prop := e = .returned (.int .i64 n) ∧ Rb B w' R t ∧ OnlyK R w w'
theorem lowN_app : ∀ (l : List Int) (z : Int), lowN (l ++ [z]) = lowN l + (256 : Int) ^ l.length * z
  | [], z => by show z + 256 * 0 = 0 + (256 : Int) ^ 0 * z; simp
  | a :: r, z => by
    rw [List.cons_append, lowN, lowN, lowN_app r z, List.length_cons, Int.pow_succ, Int.mul_add, Int.mul_comm ((256 : Int) ^ r.length) 256, Int.mul_assoc]
    omega
theorem lowN_snoc {L : List Int} {j : Nat} (h : j < L.length) : lowN (L.take (j + 1)) = lowN (L.take j) + (256 : Int) ^ j * L[j] := by
  rw [List.take_succ_eq_append_getElem h, lowN_app, List.length_take, Nat.min_eq_left (by omega)]
theorem lowN_take {L : List Int} {j : Nat} (hL : ∀ z ∈ L, 0 ≤ z ∧ z ≤ 255) (h : j < L.length) : 0 ≤ lowN (L.take j) ∧ lowN (L.take j) < (256 : Int) ^ j := by
  have := lowN_rg (L.take j) (fun z hz => hL z (List.mem_of_mem_take hz))
  rw [List.length_take, Nat.min_eq_left (by omega)] at this
  exact this
theorem pow_le {n k : Nat} (h : n ≤ k) : (256 : Int) ^ n ≤ (256 : Int) ^ k := by
  have := Nat.pow_le_pow_right (n := 256) (by decide) h
  have e : ∀ m : Nat, ((256 ^ m : Nat) : Int) = (256 : Int) ^ m := fun m => by simp
  rw [← e, ← e]
  omega
theorem or_add {X Z i : Nat} (h : X < 2 ^ i) : X ||| Z * 2 ^ i = X + Z * 2 ^ i := by
  have := Nat.shiftLeft_add_eq_or_of_lt h Z
  rw [Nat.shiftLeft_eq] at this
  rw [Nat.or_comm, ← this, Nat.add_comm]
theorem p256 (j : Nat) : (256 : Nat) ^ j = 2 ^ (j * 8) := by rw [Nat.mul_comm, Nat.pow_mul]
theorem mul_p {Z j m : Nat} (hZ : Z ≤ 255) (hj : j ≤ m) : Z * 2 ^ (j * 8) < 2 ^ ((m + 1) * 8) := by
  have h1 : Z * 2 ^ (j * 8) ≤ 255 * 2 ^ (j * 8) := Nat.mul_le_mul_right _ hZ
  have h2 : 2 ^ (j * 8) ≤ 2 ^ (m * 8) := Nat.pow_le_pow_right (by decide) (Nat.mul_le_mul_right _ hj)
  have h3 : 2 ^ ((m + 1) * 8) = 2 ^ (m * 8) * 256 := by rw [Nat.succ_mul, Nat.pow_add]
  have h4 : 0 < 2 ^ (m * 8) := Nat.pow_pos (by decide)
  omega
theorem or_u8 {x z : Int} {j : Nat} (hj : j ≤ 0) (hx : 0 ≤ x ∧ x < (256 : Int) ^ j) (hz : 0 ≤ z ∧ z ≤ 255) : bits .or .u8 x (IntKind.u8.wrap (z * 2 ^ (j * 8))) = x + (256 : Int) ^ j * z := by
  obtain ⟨X, rfl⟩ := Int.eq_ofNat_of_zero_le hx.1
  obtain ⟨Z, rfl⟩ := Int.eq_ofNat_of_zero_le hz.1
  have e1 : (256 : Int) ^ j = ((2 ^ (j * 8) : Nat) : Int) := by rw [← p256]; simp
  have e2 : (2 : Int) ^ (j * 8) = ((2 ^ (j * 8) : Nat) : Int) := by simp
  rw [e1] at hx ⊢
  rw [e2]
  have hX : X < 2 ^ (j * 8) := by omega
  have hM := mul_p (Z := Z) (by omega) hj
  have hP : 2 ^ (j * 8) ≤ 2 ^ (0 * 8) := Nat.pow_le_pow_right (by decide) (Nat.mul_le_mul_right _ hj)
  have hO := or_add (Z := Z) hX
  rw [show (2 : Nat) ^ ((0 + 1) * 8) = 256 by decide] at hM
  rw [show (2 : Nat) ^ (0 * 8) = 1 by decide] at hP
  rw [← Int.natCast_mul, Int.mul_comm (((2 ^ (j * 8) : Nat)) : Int) (Z : Int), ← Int.natCast_mul]
  have hS : X + Z * 2 ^ (j * 8) < 256 := by rw [← hO]; exact Nat.or_lt_two_pow (n := 8) (by omega) (by omega)
  generalize Z * 2 ^ (j * 8) = Y at *
  rw [show IntKind.u8.wrap ((Y : Nat) : Int) = (Y : Int) by rw [IntKind.wrap_u8]; omega]
  have key : (BitVec.ofInt 8 (X : Int) ||| BitVec.ofInt 8 (Y : Int)).toNat = X + Y := by
    rw [BitVec.toNat_or, BitVec.toNat_ofInt, BitVec.toNat_ofInt, ← hO]
    congr 1 <;> omega
  show IntKind.u8.wrap ((BitVec.ofInt 8 (X : Int) ||| BitVec.ofInt 8 (Y : Int)).toNat : Nat) = _
  rw [key, IntKind.wrap_u8]
  omega
theorem or_u16 {x z : Int} {j : Nat} (hj : j ≤ 1) (hx : 0 ≤ x ∧ x < (256 : Int) ^ j) (hz : 0 ≤ z ∧ z ≤ 255) : bits .or .u16 x (IntKind.u16.wrap (z * 2 ^ (j * 8))) = x + (256 : Int) ^ j * z := by
  obtain ⟨X, rfl⟩ := Int.eq_ofNat_of_zero_le hx.1
  obtain ⟨Z, rfl⟩ := Int.eq_ofNat_of_zero_le hz.1
  have e1 : (256 : Int) ^ j = ((2 ^ (j * 8) : Nat) : Int) := by rw [← p256]; simp
  have e2 : (2 : Int) ^ (j * 8) = ((2 ^ (j * 8) : Nat) : Int) := by simp
  rw [e1] at hx ⊢
  rw [e2]
  have hX : X < 2 ^ (j * 8) := by omega
  have hM := mul_p (Z := Z) (by omega) hj
  have hP : 2 ^ (j * 8) ≤ 2 ^ (1 * 8) := Nat.pow_le_pow_right (by decide) (Nat.mul_le_mul_right _ hj)
  have hO := or_add (Z := Z) hX
  rw [show (2 : Nat) ^ ((1 + 1) * 8) = 65536 by decide] at hM
  rw [show (2 : Nat) ^ (1 * 8) = 256 by decide] at hP
  rw [← Int.natCast_mul, Int.mul_comm (((2 ^ (j * 8) : Nat)) : Int) (Z : Int), ← Int.natCast_mul]
  have hS : X + Z * 2 ^ (j * 8) < 65536 := by rw [← hO]; exact Nat.or_lt_two_pow (n := 16) (by omega) (by omega)
  generalize Z * 2 ^ (j * 8) = Y at *
  rw [show IntKind.u16.wrap ((Y : Nat) : Int) = (Y : Int) by rw [IntKind.wrap_u16]; omega]
  have key : (BitVec.ofInt 16 (X : Int) ||| BitVec.ofInt 16 (Y : Int)).toNat = X + Y := by
    rw [BitVec.toNat_or, BitVec.toNat_ofInt, BitVec.toNat_ofInt, ← hO]
    congr 1 <;> omega
  show IntKind.u16.wrap ((BitVec.ofInt 16 (X : Int) ||| BitVec.ofInt 16 (Y : Int)).toNat : Nat) = _
  rw [key, IntKind.wrap_u16]
  omega
theorem or_u64 {x z : Int} {j : Nat} (hj : j ≤ 7) (hx : 0 ≤ x ∧ x < (256 : Int) ^ j) (hz : 0 ≤ z ∧ z ≤ 255) : bits .or .u64 x (IntKind.u64.wrap (z * 2 ^ (j * 8))) = x + (256 : Int) ^ j * z := by
  obtain ⟨X, rfl⟩ := Int.eq_ofNat_of_zero_le hx.1
  obtain ⟨Z, rfl⟩ := Int.eq_ofNat_of_zero_le hz.1
  have e1 : (256 : Int) ^ j = ((2 ^ (j * 8) : Nat) : Int) := by rw [← p256]; simp
  have e2 : (2 : Int) ^ (j * 8) = ((2 ^ (j * 8) : Nat) : Int) := by simp
  rw [e1] at hx ⊢
  rw [e2]
  have hX : X < 2 ^ (j * 8) := by omega
  have hM := mul_p (Z := Z) (by omega) hj
  have hP : 2 ^ (j * 8) ≤ 2 ^ (7 * 8) := Nat.pow_le_pow_right (by decide) (Nat.mul_le_mul_right _ hj)
  have hO := or_add (Z := Z) hX
  rw [show (2 : Nat) ^ ((7 + 1) * 8) = 18446744073709551616 by decide] at hM
  rw [show (2 : Nat) ^ (7 * 8) = 72057594037927936 by decide] at hP
  rw [← Int.natCast_mul, Int.mul_comm (((2 ^ (j * 8) : Nat)) : Int) (Z : Int), ← Int.natCast_mul]
  have hS : X + Z * 2 ^ (j * 8) < 18446744073709551616 := by rw [← hO]; exact Nat.or_lt_two_pow (n := 64) (by omega) (by omega)
  generalize Z * 2 ^ (j * 8) = Y at *
  rw [show IntKind.u64.wrap ((Y : Nat) : Int) = (Y : Int) by rw [IntKind.wrap_u64]; omega]
  have key : (BitVec.ofInt 64 (X : Int) ||| BitVec.ofInt 64 (Y : Int)).toNat = X + Y := by
    rw [BitVec.toNat_or, BitVec.toNat_ofInt, BitVec.toNat_ofInt, ← hO]
    congr 1 <;> omega
  show IntKind.u64.wrap ((BitVec.ofInt 64 (X : Int) ||| BitVec.ofInt 64 (Y : Int)).toNat : Nat) = _
  rw [key, IntKind.wrap_u64]
  omega
set_option maxRecDepth 20000 in
set_option maxHeartbeats 1000000 in
theorem next8_any {B : Nat} {w : World} {R : Nat} {s : RS} (h : Rb B w R s) :
    Calls Try.prog 74 #[.pointer (some ⟨R, 0, none⟩)] w (NxP B R w (nx8 s) (tkS 1 s)) := by
  have hL := By.tkL h.by8 1
  have hlen : (tkL 1 s).length ≤ 1 := by rw [tkL_len]; split <;> omega
  have HZ : Hid (∀ w' n, n = (lowN (tkL 1 s)) → Rb B w' R (tkS 1 s) → OnlyK R w w' → NxP B R w (nx8 s) (tkS 1 s) (.returned (.int .i64 n)) w') := fun w' n e r o => ⟨by rw [e]; rfl, r, o⟩
  generalize NxP B R w (nx8 s) (tkS 1 s) = Q at *
  go_enter Try.func74, Try.ntmps74
  go_wp2_with fail
  refine (by8_any _).mono ?_
  rintro e w1 ⟨rfl, hww⟩
  obtain rfl := hww.symm
  go_wp2_with fail
  refine (take_any h 1 (by decide)).mono ?_
  rintro e w2 ⟨v, rfl, ⟨a, rfl, hc⟩, hR, hO⟩
  have HY : Hid (∀ n, n = (lowN (tkL 1 s)) → Q (.returned (.int .i64 n)) w2) := fun n e => HZ.out w2 n e hR hO
  clear HZ hR hO h
  generalize tkL 1 s = L at *
  go_wp2_with fail
  go_loopw [3, 10] (fun n i wr => ∃ j : Nat, i = .int .i64 (j : Int) ∧ j ≤ L.length ∧ n = .int .u8 (lowN (L.take j)) ∧ Hid (wr = w2)) (fun _ i _ => L.length - (intOf i).toNat)
  case atStart => exact ⟨0, rfl, Nat.zero_le _, rfl, rfl⟩
  case round =>
    obtain ⟨j, rfl, hj, rfl, hwr⟩ := hrel
    obtain rfl := hwr.out
    by_cases hlt : j < L.length
    · obtain ⟨g, off, rfl, hcs⟩ := hc (by omega)
      have hb := hL L[j] (List.getElem_mem _)
      have hcj := hcs j hlt
      have i1 : (j : Int) < (L.length : Int) := by omega
      have i2 : j ≤ 0 := by omega
      have hS := or_u8 i2 (lowN_take hL hlt) hb
      rw [← lowN_snoc hlt] at hS
      clear hcs hc hL
      generalize L[j] = z at *
      go_wp2_with fail
      go_roundw
      case rel => exact ⟨j + 1, by go_num, by omega, by first | (rw [← hS]; done) | (rw [← hS, IntKind.wrap_u8]), trivial⟩
      case measure => simp [intOf]; omega
    · have i1 : ¬ (j : Int) < (L.length : Int) := by omega
      have i2 : decide ((j : Int) < (L.length : Int)) = false := decide_eq_false i1
      have hjj : j = L.length := by omega
      have hrg := lowN_rg L hL
      have hrl : lowN L < 256 := Int.lt_of_lt_of_le hrg.2 (pow_le hlen)
      subst hjj
      rw [List.take_length]
      go_wp2_with fail
      exact HY.out _ (by first | rfl | (unfold wrap64; omega))
set_option maxRecDepth 20000 in
set_option maxHeartbeats 1000000 in
theorem next16_any {B : Nat} {w : World} {R : Nat} {s : RS} (h : Rb B w R s) :
    Calls Try.prog 71 #[.pointer (some ⟨R, 0, none⟩)] w (NxP B R w (nx16 s) (tkS 2 s)) := by
  have hL := By.tkL h.by8 2
  have hlen : (tkL 2 s).length ≤ 2 := by rw [tkL_len]; split <;> omega
  have HZ : Hid (∀ w' n, n = (lowN (tkL 2 s)) → Rb B w' R (tkS 2 s) → OnlyK R w w' → NxP B R w (nx16 s) (tkS 2 s) (.returned (.int .i64 n)) w') := fun w' n e r o => ⟨by rw [e]; rfl, r, o⟩
  generalize NxP B R w (nx16 s) (tkS 2 s) = Q at *
  go_enter Try.func71, Try.ntmps71
  go_wp2_with fail
  refine (by16_any _).mono ?_
  rintro e w1 ⟨rfl, hww⟩
  obtain rfl := hww.symm
  go_wp2_with fail
  refine (take_any h 2 (by decide)).mono ?_
  rintro e w2 ⟨v, rfl, ⟨a, rfl, hc⟩, hR, hO⟩
  have HY : Hid (∀ n, n = (lowN (tkL 2 s)) → Q (.returned (.int .i64 n)) w2) := fun n e => HZ.out w2 n e hR hO
  clear HZ hR hO h
  generalize tkL 2 s = L at *
  go_wp2_with fail
  go_loopw [3, 10] (fun n i wr => ∃ j : Nat, i = .int .i64 (j : Int) ∧ j ≤ L.length ∧ n = .int .u16 (lowN (L.take j)) ∧ Hid (wr = w2)) (fun _ i _ => L.length - (intOf i).toNat)
  case atStart => exact ⟨0, rfl, Nat.zero_le _, rfl, rfl⟩
  case round =>
    obtain ⟨j, rfl, hj, rfl, hwr⟩ := hrel
    obtain rfl := hwr.out
    by_cases hlt : j < L.length
    · obtain ⟨g, off, rfl, hcs⟩ := hc (by omega)
      have hb := hL L[j] (List.getElem_mem _)
      have hcj := hcs j hlt
      have i1 : (j : Int) < (L.length : Int) := by omega
      have i2 : j ≤ 1 := by omega
      have hS := or_u16 i2 (lowN_take hL hlt) hb
      rw [← lowN_snoc hlt] at hS
      clear hcs hc hL
      generalize L[j] = z at *
      go_wp2_with fail
      go_roundw
      case rel => exact ⟨j + 1, by go_num, by omega, by first | (rw [← hS]; done) | (rw [← hS, IntKind.wrap_u8]), trivial⟩
      case measure => simp [intOf]; omega
    · have i1 : ¬ (j : Int) < (L.length : Int) := by omega
      have i2 : decide ((j : Int) < (L.length : Int)) = false := decide_eq_false i1
      have hjj : j = L.length := by omega
      have hrg := lowN_rg L hL
      have hrl : lowN L < 65536 := Int.lt_of_lt_of_le hrg.2 (pow_le hlen)
      subst hjj
      rw [List.take_length]
      go_wp2_with fail
      exact HY.out _ (by first | rfl | (unfold wrap64; omega))
set_option maxRecDepth 20000 in
set_option maxHeartbeats 1000000 in
theorem next64_any {B : Nat} {w : World} {R : Nat} {s : RS} (h : Rb B w R s) :
    Calls Try.prog 90 #[.pointer (some ⟨R, 0, none⟩)] w (NxP B R w (nx64 s) (tkS 8 s)) := by
  have hL := By.tkL h.by8 8
  have hlen : (tkL 8 s).length ≤ 8 := by rw [tkL_len]; split <;> omega
  have HZ : Hid (∀ w' n, n = wr64 (lowN (tkL 8 s)) → Rb B w' R (tkS 8 s) → OnlyK R w w' → NxP B R w (nx64 s) (tkS 8 s) (.returned (.int .i64 n)) w') := fun w' n e r o => ⟨by rw [e]; rfl, r, o⟩
  generalize NxP B R w (nx64 s) (tkS 8 s) = Q at *
  go_enter Try.func90, Try.ntmps90
  go_wp2_with fail
  refine (by64_any _).mono ?_
  rintro e w1 ⟨rfl, hww⟩
  obtain rfl := hww.symm
  go_wp2_with fail
  refine (take_any h 8 (by decide)).mono ?_
  rintro e w2 ⟨v, rfl, ⟨a, rfl, hc⟩, hR, hO⟩
  have HY : Hid (∀ n, n = wr64 (lowN (tkL 8 s)) → Q (.returned (.int .i64 n)) w2) := fun n e => HZ.out w2 n e hR hO
  clear HZ hR hO h
  generalize tkL 8 s = L at *
  go_wp2_with fail
  go_loopw [3, 10] (fun n i wr => ∃ j : Nat, i = .int .i64 (j : Int) ∧ j ≤ L.length ∧ n = .int .u64 (lowN (L.take j)) ∧ Hid (wr = w2)) (fun _ i _ => L.length - (intOf i).toNat)
  case atStart => exact ⟨0, rfl, Nat.zero_le _, rfl, rfl⟩
  case round =>
    obtain ⟨j, rfl, hj, rfl, hwr⟩ := hrel
    obtain rfl := hwr.out
    by_cases hlt : j < L.length
    · obtain ⟨g, off, rfl, hcs⟩ := hc (by omega)
      have hb := hL L[j] (List.getElem_mem _)
      have hcj := hcs j hlt
      have i1 : (j : Int) < (L.length : Int) := by omega
      have i2 : j ≤ 7 := by omega
      have hS := or_u64 i2 (lowN_take hL hlt) hb
      rw [← lowN_snoc hlt] at hS
      clear hcs hc hL
      generalize L[j] = z at *
      go_wp2_with fail
      go_roundw
      case rel => exact ⟨j + 1, by go_num, by omega, by first | (rw [← hS]; done) | (rw [← hS, IntKind.wrap_u8]), trivial⟩
      case measure => simp [intOf]; omega
    · have i1 : ¬ (j : Int) < (L.length : Int) := by omega
      have i2 : decide ((j : Int) < (L.length : Int)) = false := decide_eq_false i1
      have hjj : j = L.length := by omega
      have hrg := lowN_rg L hL
      have hrl : lowN L < 18446744073709551616 := Int.lt_of_lt_of_le hrg.2 (pow_le hlen)
      subst hjj
      rw [List.take_length]
      go_wp2_with fail
      exact HY.out _ (by first | (unfold wr64 wrap64; split <;> omega) | (unfold wr64; split <;> omega))
theorem number_any {B : Nat} {w : World} {R : Nat} {s : RS} (h : Rb B w R s) :
    Calls Try.prog 46 #[.pointer (some ⟨R, 0, none⟩)] w (NxP B R w (nx16 s) (tkS 2 s)) := by
  have HZ : Hid (∀ w' n, n = nx16 s → Rb B w' R (tkS 2 s) → OnlyK R w w' → NxP B R w (nx16 s) (tkS 2 s) (.returned (.int .i64 n)) w') := fun w' n e r o => ⟨by rw [e], r, o⟩
  have hn := next16_any h
  generalize NxP B R w (nx16 s) (tkS 2 s) = Q at *
  go_enter Try.func46, Try.ntmps46
  go_wp2_with fail
  refine (next16_any h).mono ?_
  rintro e w2 ⟨rfl, hR, hO⟩
  have HY := HZ.out w2 _ rfl hR hO
  clear HZ hn
  generalize nx16 s = n at *
  go_wp2_with fail
  exact HY
end Go.Proofs.Ytlfkjjnhlkaipaa
