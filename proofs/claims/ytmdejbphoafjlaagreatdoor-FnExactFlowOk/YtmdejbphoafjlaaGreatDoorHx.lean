/- My texts MFla, MFlc in one. -/
import Derived.Test.YtmdejbphoafjlaaGreatDoorHq
set_option maxHeartbeats 100000000
set_option maxRecDepth 100000
namespace Go.Proofs.YtmdejbphoafjlaaGreatDoor
open Go.ChangeShapes Go.WideShapes Go.ChangeAt Go.RowKit
theorem and_mkfl {a b:Bool}(ha:a=true) (hb:b=true):(a&&b)=true:=by rw[ha,hb];rfl
theorem xfl_k0:(Rows.fnExactFlowOkRow.wf (OpenSpec.ofChange Rows.fnExactFlowOkSpec))=true:=by kernel_rfl
theorem xfl_k1:(laidOutB Tryz.prog)=true:=by kernel_rfl
theorem xfl_k2:(mapsRowed Tryz.prog)=true:=by kernel_rfl
theorem xfl_k3:(Tryz.f4.params.all (Tryz.prog.readableRec ·))=true:=by kernel_rfl
theorem xfl_k4:(namedTie Tryz.prog Rows.fnExactFlowOkRow.named Rows.fnExactFlowOkSpec.vars)=true:=by kernel_rfl
theorem xfl_k5:((Rows.fnExactFlowOkRow.stops==[]))=true:=by kernel_rfl
theorem xfl_k6:((Tryz.prog.stops==[]))=true:=by kernel_rfl
theorem xfl_k7:((Rows.fnExactFlowOkRow.knobs==[]))=true:=by kernel_rfl
theorem xfl_k8:((Tryz.prog.stopKnobs==[]))=true:=by kernel_rfl
theorem xfl_k9:((Rows.fnExactFlowOkRow.inPlace==Tryz.prog.inPlace 4))=true:=by kernel_rfl
theorem xfl_k10:((Rows.fnExactFlowOkRow.unfollowed==Tryz.prog.unfollowed 4))=true:=by kernel_rfl
theorem xfl_k11:((Rows.fnExactFlowOkRow.recurses==Tryz.prog.recurses 4))=true:=by kernel_rfl
theorem xfl_k12:((Rows.fnExactFlowOkRow.named==Tryz.prog.varsNamed 4))=true:=by kernel_rfl
theorem xfl_k13:((Rows.fnExactFlowOkRow.maps==(Tryz.f4.params.toList++Rows.fnExactFlowOkSpec.plain.varTypes Tryz.prog).any (Tryz.prog.mapsRec ·)))=true:=by kernel_rfl
theorem xfl_k14:((Rows.fnExactFlowOkRow.ifaces==(Tryz.f4.params.toList++Rows.fnExactFlowOkSpec.plain.varTypes Tryz.prog).any (Tryz.prog.ifacesRec ·)))=true:=by kernel_rfl
theorem xfl_k15:((Rows.fnExactFlowOkRow.mapsOut==Tryz.prog.mapsAmong Tryz.f4.resultTypes.toList))=true:=by kernel_rfl
theorem xfl_k16:((Rows.fnExactFlowOkRow.loops==(Tryz.f4.params.toList++Rows.fnExactFlowOkSpec.plain.varTypes Tryz.prog).any (Tryz.prog.loopsFrom ·)))=true:=by kernel_rfl
theorem xfl_k17:((Rows.fnExactFlowOkRow.wideKeys==(Tryz.f4.params.toList++Rows.fnExactFlowOkSpec.plain.varTypes Tryz.prog++Tryz.f4.resultTypes.toList).any (Tryz.prog.wideKeysFrom ·)))=true:=by kernel_rfl
theorem xfl_k18:(Rows.fnExactFlowOkSpec.vars.all (Tryz.prog.varReadable ·))=true:=by kernel_rfl
theorem xfl_k19:(Tryz.f4.resultTypes.all (fun t=>Tryz.prog.readableRec t&&decide (t<Tryz.prog.types.size)))=true:=by kernel_rfl
theorem xfl_k20:((Rows.fnExactFlowOkRow.ifacesOut==Tryz.f4.resultTypes.toList.any (Tryz.prog.ifacesRec ·)))=true:=by kernel_rfl
theorem xfl_k21:((Rows.fnExactFlowOkRow.loopsOut==Tryz.f4.resultTypes.toList.any (Tryz.prog.loopsFrom ·)))=true:=by kernel_rfl
theorem xfl_k22:((Rows.fnExactFlowOkRow.plainKeys==Tryz.prog.plainKeys))=true:=by kernel_rfl
theorem xfl_k23:(Rows.fnExactFlowOkRow.shortTexts.isNone)=true:=by kernel_rfl
theorem xfl_k24:(Tryz.prog.stopsHeard)=true:=by kernel_rfl
theorem xfl_k25:(Tryz.prog.mayEnter)=true:=by kernel_rfl
theorem xfl_k26:((Rows.fnExactFlowOkRow.lifted==Tryz.prog.liftsFinal))=true:=by kernel_rfl
theorem xfl_k27:((Tryz.prog.make==some Rows.fnExactFlowOkRow.make))=true:=by kernel_rfl
theorem xfl_k28:((Rows.fnExactFlowOkRow.kinds==(if Rows.fnExactFlowOkRow.domain.isEmpty then [] else Tryz.f4.params.toList.map fun t=>match Tryz.prog.underlying t with|some (.int k)=>some k|_=>none)))=true:=by kernel_rfl
theorem xfl_k29:((Rows.fnExactFlowOkRow.pinned==Rows.fnExactFlowOkRow.pinnedBy))=true:=by kernel_rfl
theorem xfl_k30:((Rows.fnExactFlowOkRow.veiled==(Tryz.f4.params.toList++Rows.fnExactFlowOkSpec.plain.varTypes Tryz.prog++Tryz.f4.resultTypes.toList).any (Tryz.prog.veiledRec ·)))=true:=by kernel_rfl
theorem xfl_k31:(Rows.fnExactFlowOkRow.veiledFits Tryz.prog Tryz.f4.params.toList (Tryz.f4.params.toList++Rows.fnExactFlowOkSpec.plain.varTypes Tryz.prog++Tryz.f4.resultTypes.toList))=true:=by kernel_rfl
theorem xfl_facts:joinedFacts Tryz.prog 4 Tryz.f4 Rows.fnExactFlowOkSpec Rows.fnExactFlowOkRow=true:=by
 unfold joinedFacts
 exact (and_mkfl (and_mkfl (and_mkfl (and_mkfl (and_mkfl (and_mkfl (and_mkfl (and_mkfl (and_mkfl (and_mkfl (and_mkfl (and_mkfl (and_mkfl (and_mkfl (and_mkfl (and_mkfl (and_mkfl (and_mkfl (and_mkfl (and_mkfl (and_mkfl (and_mkfl (and_mkfl (and_mkfl (and_mkfl (and_mkfl (and_mkfl (and_mkfl (and_mkfl (and_mkfl (and_mkfl xfl_k0 xfl_k1) xfl_k2) xfl_k3) xfl_k4) xfl_k5) xfl_k6) xfl_k7) xfl_k8) xfl_k9) xfl_k10) xfl_k11) xfl_k12) xfl_k13) xfl_k14) xfl_k15) xfl_k16) xfl_k17) xfl_k18) xfl_k19) xfl_k20) xfl_k21) xfl_k22) xfl_k23) xfl_k24) xfl_k25) xfl_k26) xfl_k27) xfl_k28) xfl_k29) xfl_k30) xfl_k31)
end Go.Proofs.YtmdejbphoafjlaaGreatDoor
