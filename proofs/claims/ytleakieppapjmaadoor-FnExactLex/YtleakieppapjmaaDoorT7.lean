/- Words and names, by the model and by the program. -/
import Derived.Test.YtleakieppapjmaaDoorT6
import Derived.Test.YtleakieppapjmaaDoorK5
import Derived.Laws.BytesArg
namespace Go.Proofs.YtleakieppapjmaaDoor
open Go.RowKit

theorem conv_str {w : World} {v : Value} {zs : List Int} (h : RdB w v zs) : ∀ w', Later w w' → (convert 22 9 v).run Tryd.prog w' = .ok (.string (strOfNums zs)) w' := by
  intro w' hl
  obtain ⟨a, cap, rfl, _, _, hc⟩ := h.later hl
  rcases Nat.eq_zero_or_pos zs.length with h0 | h0
  · have : zs = [] := List.eq_nil_of_length_eq_zero h0
    subst this
    cases a with
    | none => exact run_convert_bytes_nil w' 22 5 Tryd.underlying22 Tryd.underlying5 0 cap 9 Tryd.underlying9
    | some x =>
      obtain ⟨b, off, sp⟩ := x
      rw [run_convert_bytes_string w' 22 9 5 _ _ cap Tryd.underlying22 Tryd.underlying5 Tryd.underlying9, run_bytesToString w' _ _ cap [] (by simpa using run_loadCells_list (P := Tryd.prog) w' ⟨b, off, sp⟩ [] (fun j v h => by simp at h))]
      rfl
  · obtain ⟨g, off, rfl, _, _⟩ := hc 0 h0
    refine run_convert_bytes_arg w' 22 5 Tryd.underlying22 Tryd.underlying5 g off zs.length cap zs rfl (fun i hi => ?_) 9 Tryd.underlying9
    obtain ⟨_, _, he, _, hv⟩ := hc i hi
    cases he
    exact hv
theorem conv_here {w : World} {v : Value} {zs : List Int} (h : RdB w v zs) : (convert 22 9 v).run Tryd.prog w = .ok (.string (strOfNums zs)) w := conv_str h w (Later.refl _)
/-- Bytes as a string tell the bytes. -/
theorem str_inj {xs ys : List Int} (hx : ∀ j, isB (xs.getD j 0)) (hy : ∀ j, isB (ys.getD j 0)) : ((strOfNums xs).toList == (strOfNums ys).toList) = decide (xs = ys) := by
  have e : ∀ zs : List Int, (strOfNums zs).toList = zs.map fun n => UInt8.ofNat n.toNat := fun zs => by
    rw [ByteArray.toList_eq]
    exact strOfNums_data zs
  rw [e, e, Bool.eq_iff_iff, beq_iff_eq, decide_eq_true_eq]
  constructor
  · intro h
    have hl : xs.length = ys.length := by simpa using congrArg List.length h
    refine eq_of_getD hl (fun j hj => ?_)
    have h1 := congrArg (fun l => l[j]?) h
    simp only [List.getElem?_map, List.getElem?_eq_getElem hj, List.getElem?_eq_getElem (show j < ys.length by omega), Option.map_some, Option.some.injEq] at h1
    have a := hx j
    have b := hy j
    rw [List.getD_eq_getElem?_getD, List.getElem?_eq_getElem hj] at a ⊢
    rw [List.getD_eq_getElem?_getD, List.getElem?_eq_getElem (show j < ys.length by omega)] at b ⊢
    simp only [Option.getD_some] at a b ⊢
    unfold isB at a b
    have h2 := congrArg UInt8.toNat h1
    rw [UInt8.toNat_ofNat', UInt8.toNat_ofNat'] at h2
    omega
  · intro h; rw [h]

/-- The key words. -/
def keyLs : List (List Int) := [[116, 121, 112, 101], [115, 116, 114, 117, 99, 116], [102, 117, 110, 99], [118, 97, 114], [105, 102], [101, 108, 115, 101], [102, 111, 114], [114, 101, 116, 117, 114, 110], [112, 114, 105, 110, 116], [112, 97, 110, 105, 99], [100, 111], [105, 110, 116], [102, 108, 111, 97, 116], [110, 105, 108], [110, 101, 119], [109, 97, 107, 101], [108, 101, 110], [114, 101, 97, 100]]
def keyL (zs : List Int) : Bool := keyLs.contains zs
def nameL (zs : List Int) : Bool := wordL zs false && !keyL zs
theorem RdB.isB {w : World} {v : Value} {zs : List Int} (h : RdB w v zs) : ∀ j, Proofs.YtleakieppapjmaaDoor.isB (zs.getD j 0) := by obtain ⟨_, _, _, _, hb, _⟩ := h; exact hb

theorem str_lit {zs ys : List Int} {ls : List UInt8} (hx : ∀ j, isB (zs.getD j 0)) (hy : ∀ j, isB (ys.getD j 0)) (e : ys.map (fun n => UInt8.ofNat n.toNat) = ls) : ((strOfNums zs).toList == ls) = decide (zs = ys) := by
  rw [← str_inj hx hy, ← e]
  congr 1
  rw [ByteArray.toList_eq]
  exact (strOfNums_data ys).symm
theorem isB_of {ys : List Int} (h : ys.all (fun z => decide (0 ≤ z) && decide (z ≤ 255)) = true) : ∀ j, isB (ys.getD j 0) := by
  intro j
  rcases Nat.lt_or_ge j ys.length with l | l
  · rw [List.getD_eq_getElem?_getD, List.getElem?_eq_getElem l]
    have := List.all_eq_true.1 h _ (List.getElem_mem l)
    rw [Bool.and_eq_true, decide_eq_true_eq, decide_eq_true_eq] at this
    exact this
  · rw [List.getD_eq_getElem?_getD, List.getElem?_eq_none l]
    exact ⟨by simp, by simp⟩
theorem keyLs_isB : ∀ k, k < 18 → ∀ j, isB ((keyLs.getD k []).getD j 0) := by
  intro k hk
  refine isB_of ?_
  have : ∀ k, k < 18 → (keyLs.getD k []).all (fun z => decide (0 ≤ z) && decide (z ≤ 255)) = true := by decide
  exact this k hk
end Go.Proofs.YtleakieppapjmaaDoor
