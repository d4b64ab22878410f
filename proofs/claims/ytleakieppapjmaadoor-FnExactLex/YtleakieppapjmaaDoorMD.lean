/- Several of my texts in one: X14a, X14c. -/
import Derived.Test.YtleakieppapjmaaDoorX13
/- Closed facts of the row of Lex. -/
namespace Go.Proofs.YtleakieppapjmaaDoor
open Go.ChangeShapes Go.WideShapes Go.ChangeAt Go.RowKit
theorem and_mk {a b : Bool} (ha : a = true) (hb : b = true) : (a && b) = true := by rw [ha, hb]; rfl
theorem xlx_k0 : (Rows.fnExactLexRow.wf (OpenSpec.ofChange Rows.fnExactLexSpec)) = true := by kernel_rfl
theorem xlx_k1 : (laidOutB Tryd.prog) = true := by kernel_rfl
theorem xlx_k2 : (mapsRowed Tryd.prog) = true := by kernel_rfl
theorem xlx_k3 : (Tryd.f3.params.all (Tryd.prog.readableRec ·)) = true := by kernel_rfl
theorem xlx_k4 : (namedTie Tryd.prog Rows.fnExactLexRow.named Rows.fnExactLexSpec.vars) = true := by kernel_rfl
theorem xlx_k5 : ((Rows.fnExactLexRow.stops == [])) = true := by kernel_rfl
theorem xlx_k6 : ((Tryd.prog.stops == [])) = true := by kernel_rfl
theorem xlx_k7 : ((Rows.fnExactLexRow.knobs == [])) = true := by kernel_rfl
theorem xlx_k8 : ((Tryd.prog.stopKnobs == [])) = true := by kernel_rfl
theorem xlx_k9 : ((Rows.fnExactLexRow.inPlace == Tryd.prog.inPlace 3)) = true := by kernel_rfl
theorem xlx_k10 : ((Rows.fnExactLexRow.unfollowed == Tryd.prog.unfollowed 3)) = true := by kernel_rfl
theorem xlx_k11 : ((Rows.fnExactLexRow.recurses == Tryd.prog.recurses 3)) = true := by kernel_rfl
theorem xlx_k12 : ((Rows.fnExactLexRow.named == Tryd.prog.varsNamed 3)) = true := by kernel_rfl
theorem xlx_k13 : ((Rows.fnExactLexRow.maps == (Tryd.f3.params.toList ++ Rows.fnExactLexSpec.plain.varTypes Tryd.prog).any (Tryd.prog.mapsRec ·))) = true := by kernel_rfl
theorem xlx_k14 : ((Rows.fnExactLexRow.ifaces == (Tryd.f3.params.toList ++ Rows.fnExactLexSpec.plain.varTypes Tryd.prog).any (Tryd.prog.ifacesRec ·))) = true := by kernel_rfl
theorem xlx_k15 : ((Rows.fnExactLexRow.mapsOut == Tryd.prog.mapsAmong Tryd.f3.resultTypes.toList)) = true := by kernel_rfl
theorem xlx_k16 : ((Rows.fnExactLexRow.loops == (Tryd.f3.params.toList ++ Rows.fnExactLexSpec.plain.varTypes Tryd.prog).any (Tryd.prog.loopsFrom ·))) = true := by kernel_rfl
theorem xlx_k17 : ((Rows.fnExactLexRow.wideKeys == (Tryd.f3.params.toList ++ Rows.fnExactLexSpec.plain.varTypes Tryd.prog ++ Tryd.f3.resultTypes.toList).any (Tryd.prog.wideKeysFrom ·))) = true := by kernel_rfl
theorem xlx_k18 : (Rows.fnExactLexSpec.vars.all (Tryd.prog.varReadable ·)) = true := by kernel_rfl
theorem xlx_k19 : (Tryd.f3.resultTypes.all (fun t => Tryd.prog.readableRec t && decide (t < Tryd.prog.types.size))) = true := by kernel_rfl
theorem xlx_k20 : ((Rows.fnExactLexRow.ifacesOut == Tryd.f3.resultTypes.toList.any (Tryd.prog.ifacesRec ·))) = true := by kernel_rfl
theorem xlx_k21 : ((Rows.fnExactLexRow.loopsOut == Tryd.f3.resultTypes.toList.any (Tryd.prog.loopsFrom ·))) = true := by kernel_rfl
theorem xlx_k22 : ((Rows.fnExactLexRow.plainKeys == Tryd.prog.plainKeys)) = true := by kernel_rfl
theorem xlx_k23 : (Rows.fnExactLexRow.shortTexts.isNone) = true := by kernel_rfl
theorem xlx_k24 : (Tryd.prog.stopsHeard) = true := by kernel_rfl
theorem xlx_k25 : (Tryd.prog.mayEnter) = true := by kernel_rfl
theorem xlx_k26 : ((Rows.fnExactLexRow.lifted == Tryd.prog.liftsFinal)) = true := by kernel_rfl
theorem xlx_k27 : ((Tryd.prog.make == some Rows.fnExactLexRow.make)) = true := by kernel_rfl
theorem xlx_k28 : ((Rows.fnExactLexRow.kinds == (if Rows.fnExactLexRow.domain.isEmpty then [] else Tryd.f3.params.toList.map fun t => match Tryd.prog.underlying t with | some (.int k) => some k | _ => none))) = true := by kernel_rfl
theorem xlx_k29 : ((Rows.fnExactLexRow.pinned == Rows.fnExactLexRow.pinnedBy)) = true := by kernel_rfl
theorem xlx_k30 : ((Rows.fnExactLexRow.veiled == (Tryd.f3.params.toList ++ Rows.fnExactLexSpec.plain.varTypes Tryd.prog ++ Tryd.f3.resultTypes.toList).any (Tryd.prog.veiledRec ·))) = true := by kernel_rfl
theorem xlx_k31 : (Rows.fnExactLexRow.veiledFits Tryd.prog Tryd.f3.params.toList (Tryd.f3.params.toList ++ Rows.fnExactLexSpec.plain.varTypes Tryd.prog ++ Tryd.f3.resultTypes.toList)) = true := by kernel_rfl
end Go.Proofs.YtleakieppapjmaaDoor
/- Closed facts of the row of Lex, together. -/
namespace Go.Proofs.YtleakieppapjmaaDoor
open Go.ChangeShapes Go.WideShapes Go.ChangeAt Go.RowKit
set_option maxRecDepth 100000 in
theorem xlx_facts : joinedFacts Tryd.prog 3 Tryd.f3 Rows.fnExactLexSpec Rows.fnExactLexRow = true := by
  unfold joinedFacts
  exact (and_mk (and_mk (and_mk (and_mk (and_mk (and_mk (and_mk (and_mk (and_mk (and_mk (and_mk (and_mk (and_mk (and_mk (and_mk (and_mk (and_mk (and_mk (and_mk (and_mk (and_mk (and_mk (and_mk (and_mk (and_mk (and_mk (and_mk (and_mk (and_mk (and_mk (and_mk xlx_k0 xlx_k1) xlx_k2) xlx_k3) xlx_k4) xlx_k5) xlx_k6) xlx_k7) xlx_k8) xlx_k9) xlx_k10) xlx_k11) xlx_k12) xlx_k13) xlx_k14) xlx_k15) xlx_k16) xlx_k17) xlx_k18) xlx_k19) xlx_k20) xlx_k21) xlx_k22) xlx_k23) xlx_k24) xlx_k25) xlx_k26) xlx_k27) xlx_k28) xlx_k29) xlx_k30) xlx_k31)
end Go.Proofs.YtleakieppapjmaaDoor
