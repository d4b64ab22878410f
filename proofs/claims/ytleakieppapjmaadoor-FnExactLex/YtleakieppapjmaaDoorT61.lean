/- What the printer takes from the library: decimals. -/
import Derived.Test.YtleakieppapjmaaDoorT52
import Derived.Test.YtleakieppapjmaaDoorShelf
import Derived.Lib.AppendIntMem
namespace Go.Proofs.YtleakieppapjmaaDoor
open Go.RowKit Go.Lib
theorem digF_dec : ∀ (f u : Nat), u < 10 ^ f → 1 ≤ f → digF f u = (decDigits u).map fun b => (b.toNat : Int)
  | 0, u, _, h => absurd h (by omega)
  | f + 1, u, hu, _ => by
    rw [digF, decDigits]
    by_cases h : u < 10
    · rw [if_pos h, dif_pos h, List.map_cons, List.map_nil, UInt8.toNat_ofNat']
      congr 1
      omega
    · rw [if_neg h, dif_neg h, List.map_append, List.map_cons, List.map_nil, UInt8.toNat_ofNat']
      have hf : 1 ≤ f := by
        rcases Nat.eq_zero_or_pos f with h0 | h0
        · rw [h0] at hu; simp at hu; omega
        · exact h0
      rw [digF_dec f (u / 10) (by rw [Nat.pow_succ] at hu; omega) hf]
      congr 2
      omega
theorem bytes_itoa (n : Int) (hn : InR n) : bytesOf ⟨(itoa n).toArray⟩ = decL n := by
  unfold InR at hn
  show ((itoa n).toArray.toList.map fun b => (b.toNat : Int)) = _
  rw [List.toList_toArray]
  unfold itoa decL
  by_cases h : n < 0
  · rw [if_pos h, if_pos h, List.map_cons, digF_dec 20 _ (by have : (10 : Nat) ^ 20 = 100000000000000000000 := by decide
                                                             omega) (by decide)]
    have : n.natAbs = (-n).toNat := by omega
    rw [this]
    rfl
  · rw [if_neg h, if_neg h, digF_dec 20 _ (by have : (10 : Nat) ^ 20 = 100000000000000000000 := by decide
                                              omega) (by decide)]
theorem later_grow (w : World) (k : Nat) (os : Array Obj) : Later w (Sort.grow (w.drewN k) os) := by
  refine ⟨rfl, rfl, rfl, ?_, fun b hb => ?_⟩
  · show w.heap.size ≤ (w.heap ++ os).size
    simp
  · show (w.heap ++ os)[b]? = w.heap[b]?
    rw [Array.getElem?_append_left hb]
theorem ito_any (nm : String) (hname : nm = "internal/strconv.uint64pow10") (n : Int) (w : World) (hn : InR n) (ht : TabIs Tryd.prog w nm .u64 pow10Tab) : Calls Tryd.prog 38 #[.int .i64 n] w (StrL w (decL n)) := by
  subst hname
  refine (Tryd.strconv_Itoa n hn.1 hn.2 w ht).mono ?_
  rintro e w' ⟨rfl, k, os, rfl⟩
  exact ⟨_, rfl, bytes_itoa n hn, later_grow w k os⟩
end Go.Proofs.YtleakieppapjmaaDoor
