/- Closed facts of the row of SourceOk. -/
import Derived.Test.YtjfijeiillgaeaaGreatDoorMF
namespace Go.Proofs.YtjfijeiillgaeaaGreatDoor
open Go.ChangeShapes Go.WideShapes Go.ChangeAt Go.RowKit
theorem and_mk {a b : Bool} (ha : a = true) (hb : b = true) : (a && b) = true := by rw [ha, hb]; rfl
theorem xok_k0 : (Rows.fnExactSourceOkRow.wf (OpenSpec.ofChange Rows.fnExactSourceOkSpec)) = true := by kernel_rfl
theorem xok_k1 : (laidOutB Tryz.prog) = true := by kernel_rfl
theorem xok_k2 : (mapsRowed Tryz.prog) = true := by kernel_rfl
theorem xok_k3 : (Tryz.f3.params.all (Tryz.prog.readableRec ·)) = true := by kernel_rfl
theorem xok_k4 : (namedTie Tryz.prog Rows.fnExactSourceOkRow.named Rows.fnExactSourceOkSpec.vars) = true := by kernel_rfl
theorem xok_k5 : ((Rows.fnExactSourceOkRow.stops == [])) = true := by kernel_rfl
theorem xok_k6 : ((Tryz.prog.stops == [])) = true := by kernel_rfl
theorem xok_k7 : ((Rows.fnExactSourceOkRow.knobs == [])) = true := by kernel_rfl
theorem xok_k8 : ((Tryz.prog.stopKnobs == [])) = true := by kernel_rfl
theorem xok_k9 : ((Rows.fnExactSourceOkRow.inPlace == Tryz.prog.inPlace 3)) = true := by kernel_rfl
theorem xok_k10 : ((Rows.fnExactSourceOkRow.unfollowed == Tryz.prog.unfollowed 3)) = true := by kernel_rfl
theorem xok_k11 : ((Rows.fnExactSourceOkRow.recurses == Tryz.prog.recurses 3)) = true := by kernel_rfl
theorem xok_k12 : ((Rows.fnExactSourceOkRow.named == Tryz.prog.varsNamed 3)) = true := by kernel_rfl
theorem xok_k13 : ((Rows.fnExactSourceOkRow.maps == (Tryz.f3.params.toList ++ Rows.fnExactSourceOkSpec.plain.varTypes Tryz.prog).any (Tryz.prog.mapsRec ·))) = true := by kernel_rfl
theorem xok_k14 : ((Rows.fnExactSourceOkRow.ifaces == (Tryz.f3.params.toList ++ Rows.fnExactSourceOkSpec.plain.varTypes Tryz.prog).any (Tryz.prog.ifacesRec ·))) = true := by kernel_rfl
theorem xok_k15 : ((Rows.fnExactSourceOkRow.mapsOut == Tryz.prog.mapsAmong Tryz.f3.resultTypes.toList)) = true := by kernel_rfl
theorem xok_k16 : ((Rows.fnExactSourceOkRow.loops == (Tryz.f3.params.toList ++ Rows.fnExactSourceOkSpec.plain.varTypes Tryz.prog).any (Tryz.prog.loopsFrom ·))) = true := by kernel_rfl
theorem xok_k17 : ((Rows.fnExactSourceOkRow.wideKeys == (Tryz.f3.params.toList ++ Rows.fnExactSourceOkSpec.plain.varTypes Tryz.prog ++ Tryz.f3.resultTypes.toList).any (Tryz.prog.wideKeysFrom ·))) = true := by kernel_rfl
theorem xok_k18 : (Rows.fnExactSourceOkSpec.vars.all (Tryz.prog.varReadable ·)) = true := by kernel_rfl
theorem xok_k19 : (Tryz.f3.resultTypes.all (fun t => Tryz.prog.readableRec t && decide (t < Tryz.prog.types.size))) = true := by kernel_rfl
theorem xok_k20 : ((Rows.fnExactSourceOkRow.ifacesOut == Tryz.f3.resultTypes.toList.any (Tryz.prog.ifacesRec ·))) = true := by kernel_rfl
theorem xok_k21 : ((Rows.fnExactSourceOkRow.loopsOut == Tryz.f3.resultTypes.toList.any (Tryz.prog.loopsFrom ·))) = true := by kernel_rfl
theorem xok_k22 : ((Rows.fnExactSourceOkRow.plainKeys == Tryz.prog.plainKeys)) = true := by kernel_rfl
theorem xok_k23 : (Rows.fnExactSourceOkRow.shortTexts.isNone) = true := by kernel_rfl
theorem xok_k24 : (Tryz.prog.stopsHeard) = true := by kernel_rfl
theorem xok_k25 : (Tryz.prog.mayEnter) = true := by kernel_rfl
theorem xok_k26 : ((Rows.fnExactSourceOkRow.lifted == Tryz.prog.liftsFinal)) = true := by kernel_rfl
theorem xok_k27 : ((Tryz.prog.make == some Rows.fnExactSourceOkRow.make)) = true := by kernel_rfl
theorem xok_k28 : ((Rows.fnExactSourceOkRow.kinds == (if Rows.fnExactSourceOkRow.domain.isEmpty then [] else Tryz.f3.params.toList.map fun t => match Tryz.prog.underlying t with | some (.int k) => some k | _ => none))) = true := by kernel_rfl
theorem xok_k29 : ((Rows.fnExactSourceOkRow.pinned == Rows.fnExactSourceOkRow.pinnedBy)) = true := by kernel_rfl
theorem xok_k30 : ((Rows.fnExactSourceOkRow.veiled == (Tryz.f3.params.toList ++ Rows.fnExactSourceOkSpec.plain.varTypes Tryz.prog ++ Tryz.f3.resultTypes.toList).any (Tryz.prog.veiledRec ·))) = true := by kernel_rfl
theorem xok_k31 : (Rows.fnExactSourceOkRow.veiledFits Tryz.prog Tryz.f3.params.toList (Tryz.f3.params.toList ++ Rows.fnExactSourceOkSpec.plain.varTypes Tryz.prog ++ Tryz.f3.resultTypes.toList)) = true := by kernel_rfl
end Go.Proofs.YtjfijeiillgaeaaGreatDoor
