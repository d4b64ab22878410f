/- A slice of bytes that came in, read: what the walks are told of it. Own text. -/
import Derived.Test.YtlfkjjnhlkaipaaRows
import Derived.Test.YtlfkjjnhlkaipaaD4
import Derived.ProofKit
import Derived.OpenShut
import Derived.ShutString
import Derived.ChangeOld
import Derived.Below
namespace Go.Proofs.Ytlfkjjnhlkaipaa
open Go.ChangeShapes Go.WideShapes Go.ChangeAt Go.RowKit

theorem own : ownKnob Try.prog.godebug = none := by kernel_rfl
theorem laidOut : laidOutB Try.prog = true := by kernel_rfl

theorem lt_of_cell {w : World} {a : Addr} {v : Value} (h : w.cell? a = some v) : a.block < w.heap.size := by
  rcases Nat.lt_or_ge a.block w.heap.size with l | l
  · exact l
  · have : w.heap[a.block]? = none := Array.getElem?_eq_none l
    unfold World.cell? at h
    rw [this] at h
    cases h

theorem bytes_of {w : World} {x : Addr} {len : Nat} {zs : List Int} (hl : len ≤ zs.length) (hm : zs.length ≤ maxLen)
    (hcell : ∀ i, i < zs.length → w.cell? (x.add i) = some (.int .u8 (zs.getD i 0))) (hw : ∀ n ∈ zs, (Lit.int .u8 n).wf = true) : Bytes w (some x) len := by
  unfold maxLen at hm
  refine ⟨by omega, fun j hj => ?_⟩
  obtain ⟨b, off, rfl, hc⟩ := ints_at hcell (by omega)
  have h1 := hc j (by omega)
  have h2 : (Lit.int .u8 (zs.getD j 0)).wf = true := hw _ (by rw [List.getD_eq_getElem?_getD, List.getElem?_eq_getElem (by omega)]; exact List.getElem_mem _)
  have h3 : 0 ≤ zs.getD j 0 ∧ zs.getD j 0 ≤ 255 := by
    simp only [Lit.wf, IntKind.min, IntKind.max, IntKind.signed, IntKind.bits, Bool.and_eq_true] at h2
    simpa using h2
  exact ⟨b, off, _, rfl, lt_of_cell h1, h1, h3.1, h3.2⟩
theorem bytes_nil (w : World) : Bytes w none 0 := ⟨by omega, fun j hj => by omega⟩

end Go.Proofs.Ytlfkjjnhlkaipaa
