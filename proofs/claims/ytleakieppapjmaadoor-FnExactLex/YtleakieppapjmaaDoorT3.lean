/- How much a tree takes: the laws' own functions sz. -/
import Derived.Test.YtleakieppapjmaaDoorT2
import Derived.Deep.RegionWith
namespace Go.Proofs.YtleakieppapjmaaDoor
open Go.RowKit

/-- What is left. -/
def szR (left : Int) (s : Nat) : Int := if (s : Int) ≤ left then left - s else -1
theorem szR_pos {left : Int} {s : Nat} (h : (s : Int) ≤ left) : szR left s = left - s := if_pos h
theorem szR_neg {left : Int} {s : Nat} (h : ¬ (s : Int) ≤ left) : szR left s = -1 := if_neg h

end Go.Proofs.YtleakieppapjmaaDoor
