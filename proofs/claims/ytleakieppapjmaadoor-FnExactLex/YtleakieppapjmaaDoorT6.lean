/- Trees held against each other by the laws' own functions eq: two readings of one tree are the same. -/
import Derived.Test.YtleakieppapjmaaDoorT5
namespace Go.Proofs.YtleakieppapjmaaDoor
open Go.RowKit

theorem eqb_true {v1 v2 : Value} {zs : List Int} {w : World} (h1 : RdB w v1 zs) (h2 : RdB w v2 zs) : Calls Tryd.prog 8 #[v1, v2] w fun e w' => e = .returned (.bool true) ∧ Later w w' :=
  eqb_b (b := true) (show _ = _ from decide_eq_true rfl) h1 h2
end Go.Proofs.YtleakieppapjmaaDoor
