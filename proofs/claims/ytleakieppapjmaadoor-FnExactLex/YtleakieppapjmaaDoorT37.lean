/- Expressions put behind a text, by the model: what asks for no call of itself, and what does. -/
import Derived.Test.YtleakieppapjmaaDoorT36
namespace Go.Proofs.YtleakieppapjmaaDoor
open Go.RowKit Go.Lib
theorem BxT.at {b : Nat} {A : World} {cs : List Value} {t : TypeId} (h : BxT b A cs t) (ht : t ≠ 5) (i : Nat) (u : Value) (hu : cs[i]? = some u) : ∀ w', K8 A w' → w'.cell? ⟨b, i, none⟩ = some u := fun _ k => (h.k8 k ht).cell i u hu
end Go.Proofs.YtleakieppapjmaaDoor
