/- What a piece is as an int: plain facts, and l3int. -/
import Derived.Test.YtleakieppapjmaaDoorK6
import Derived.Test.YtleakieppapjmaaDoorK4
import Derived.Laws.BytesArg
namespace Go.Proofs.YtleakieppapjmaaDoor.KL
open Go.RowKit

def evN (zs : List Int) : Int := zs.foldl (fun a z => a * 10 + (z - 48)) 0
def evU (zs : List Int) : Int := zs.foldl (fun a z => IntKind.u64.wrap (IntKind.u64.wrap (a * 10) + (z - 48))) 0
theorem evU_gen : ∀ (zs : List Int) (a b : Int), a = b % 18446744073709551616 → zs.foldl (fun a z => IntKind.u64.wrap (IntKind.u64.wrap (a * 10) + (z - 48))) a = zs.foldl (fun a z => a * 10 + (z - 48)) b % 18446744073709551616
  | [], a, b, h => h
  | z :: r, a, b, h => by
    rw [List.foldl_cons, List.foldl_cons]
    refine evU_gen r _ _ ?_
    rw [IntKind.wrap_u64, IntKind.wrap_u64]
    omega
theorem evU_eq (zs : List Int) : evU zs = evN zs % 18446744073709551616 := evU_gen zs 0 0 rfl
theorem evN_snoc (zs : List Int) (z : Int) : evN (zs ++ [z]) = evN zs * 10 + (z - 48) := by unfold evN; rw [List.foldl_append]; rfl
theorem evU_snoc (zs : List Int) (z : Int) : evU (zs ++ [z]) = IntKind.u64.wrap (IntKind.u64.wrap (evU zs * 10) + (z - 48)) := by unfold evU; rw [List.foldl_append]; rfl
theorem evN_digF (k u : Nat) (h : u < 10 ^ k) (hk : 0 < k) : evN (digF k u) = u := by
  induction k generalizing u with
  | zero => exact absurd hk (Nat.lt_irrefl _)
  | succ k ih =>
    unfold digF
    split
    · unfold evN; simp; omega
    · rename_i hlt
      have hk0 : 0 < k := by
        rcases Nat.eq_zero_or_pos k with h' | h'
        · subst h'; simp at h; omega
        · exact h'
      rw [evN_snoc, ih (u / 10) (by rw [Nat.pow_succ] at h; omega) hk0]
      omega
theorem digF_dig (k u : Nat) : ∀ z ∈ digF k u, 48 ≤ z ∧ z ≤ 57 := by
  induction k generalizing u with
  | zero => intro z hz; cases hz
  | succ k ih =>
    unfold digF
    split
    · intro z hz; rw [List.mem_singleton.1 hz]; omega
    · intro z hz
      rcases List.mem_append.1 hz with hz | hz
      · exact ih _ z hz
      · rw [List.mem_singleton.1 hz]; omega
theorem digF_short (k u j : Nat) (h : u < 10 ^ j) (hj : 0 < j) : (digF k u).length ≤ j := by
  induction k generalizing u j with
  | zero => simp [digF]
  | succ k ih =>
    unfold digF
    split
    · simp; omega
    · rename_i hlt
      match j, hj with
      | 1, _ => simp at h; omega
      | j + 2, _ =>
        have := ih (u / 10) (j + 1) (by rw [Nat.pow_succ] at h; omega) (by omega)
        simp; omega

/-- Ints of 64 bits, as a test. -/
def inB (n : Int) : Bool := decide (-9223372036854775808 ≤ n) && decide (n ≤ 9223372036854775807)
theorem inB_iff (n : Int) : inB n = true ↔ InR n := by unfold inB InR; simp
/-- The int that a piece is. -/
def intVal (zs : List Int) : Int := if zs.head? = some 45 then -(evN zs.tail) else evN zs
def intOfL (zs : List Int) : Option Int := if inB (intVal zs) && (decL (intVal zs) == zs) then some (intVal zs) else none
theorem decL_neg {n : Int} (h : n < 0) : decL n = 45 :: digF 20 (-n).toNat := if_pos h
theorem decL_nonneg {n : Int} (h : ¬ n < 0) : decL n = digF 20 n.toNat := if_neg h
theorem intOfL_dec {m : Int} (h : InR m) : intOfL (decL m) = some m := by
  unfold InR at h
  have e : intVal (decL m) = m := by
    unfold intVal
    by_cases hn : m < 0
    · rw [decL_neg hn, if_pos (show (45 :: digF 20 (-m).toNat).head? = some 45 from rfl), List.tail_cons, evN_digF 20 _ (by omega) (by decide)]
      omega
    · rw [decL_nonneg hn]
      have hp := digF_pos 19 m.toNat
      have hd := digF_dig 20 m.toNat
      rw [if_neg, evN_digF 20 _ (by omega) (by decide)]
      · omega
      · intro hh
        have := hd 45 (List.mem_of_mem_head? hh)
        omega
  unfold intOfL
  simp only [e, (inB_iff m).2 h, beq_self_eq_true, Bool.and_self, if_true]
theorem intOfL_some {zs : List Int} {n : Int} (h : intOfL zs = some n) : InR n ∧ zs = decL n := by
  unfold intOfL at h
  split at h
  · rename_i hc
    rw [Bool.and_eq_true, beq_iff_eq] at hc
    cases h
    exact ⟨(inB_iff _).1 hc.1, hc.2.symm⟩
  · cases h
theorem intOfL_none {zs : List Int} (h : ∀ m, InR m → zs ≠ decL m) : intOfL zs = none := by
  cases e : intOfL zs with
  | none => rfl
  | some m => exact absurd (intOfL_some e).2 (h m (intOfL_some e).1)

theorem decL_short {n : Int} (h : InR n) : (decL n).length ≤ 20 ∧ 1 ≤ (decL n).length := by
  unfold InR at h
  by_cases hn : n < 0
  · rw [decL_neg hn]
    have := digF_short 20 (-n).toNat 19 (by omega) (by decide)
    simp; omega
  · rw [decL_nonneg hn]
    have := digF_short 20 n.toNat 19 (by omega) (by decide)
    have : 0 < (digF 20 n.toNat).length := digF_pos 19 n.toNat
    omega
/-- Bytes as a string tell the bytes. -/
theorem str_inj {xs ys : List Int} (hx : ∀ j, isB (xs.getD j 0)) (hy : ∀ j, isB (ys.getD j 0)) : ((strOfNums xs).toList == (strOfNums ys).toList) = decide (xs = ys) := by
  have e : ∀ zs : List Int, (strOfNums zs).toList = zs.map fun n => UInt8.ofNat n.toNat := fun zs => by
    rw [ByteArray.toList_eq]
    exact strOfNums_data zs
  rw [e, e, Bool.eq_iff_iff, beq_iff_eq, decide_eq_true_eq]
  constructor
  · intro h
    have hl : xs.length = ys.length := by simpa using congrArg List.length h
    refine eq_of_getD hl (fun j hj => ?_)
    have h1 := congrArg (fun l => l[j]?) h
    simp only [List.getElem?_map, List.getElem?_eq_getElem hj, List.getElem?_eq_getElem (show j < ys.length by omega), Option.map_some, Option.some.injEq] at h1
    have a := hx j
    have b := hy j
    rw [List.getD_eq_getElem?_getD, List.getElem?_eq_getElem hj] at a ⊢
    rw [List.getD_eq_getElem?_getD, List.getElem?_eq_getElem (show j < ys.length by omega)] at b ⊢
    simp only [Option.getD_some] at a b ⊢
    unfold isB at a b
    have h2 := congrArg UInt8.toNat h1
    rw [UInt8.toNat_ofNat', UInt8.toNat_ofNat'] at h2
    omega
  · intro h; rw [h]

end Go.Proofs.YtleakieppapjmaaDoor.KL
