/- My texts MNaa, MNac in one. -/
import Derived.Test.YtmdejbphoafjlaaGreatDoorHq
set_option maxHeartbeats 100000000
set_option maxRecDepth 100000
namespace Go.Proofs.YtmdejbphoafjlaaGreatDoor
open Go.ChangeShapes Go.WideShapes Go.ChangeAt Go.RowKit
theorem and_mkna {a b:Bool}(ha:a=true) (hb:b=true):(a&&b)=true:=by rw[ha,hb];rfl
theorem xna_k0:(Rows.fnExactNamesOkRow.wf (OpenSpec.ofChange Rows.fnExactNamesOkSpec))=true:=by kernel_rfl
theorem xna_k1:(laidOutB Tryz.prog)=true:=by kernel_rfl
theorem xna_k2:(mapsRowed Tryz.prog)=true:=by kernel_rfl
theorem xna_k3:(Tryz.f3.params.all (Tryz.prog.readableRec ·))=true:=by kernel_rfl
theorem xna_k4:(namedTie Tryz.prog Rows.fnExactNamesOkRow.named Rows.fnExactNamesOkSpec.vars)=true:=by kernel_rfl
theorem xna_k5:((Rows.fnExactNamesOkRow.stops==[]))=true:=by kernel_rfl
theorem xna_k6:((Tryz.prog.stops==[]))=true:=by kernel_rfl
theorem xna_k7:((Rows.fnExactNamesOkRow.knobs==[]))=true:=by kernel_rfl
theorem xna_k8:((Tryz.prog.stopKnobs==[]))=true:=by kernel_rfl
theorem xna_k9:((Rows.fnExactNamesOkRow.inPlace==Tryz.prog.inPlace 3))=true:=by kernel_rfl
theorem xna_k10:((Rows.fnExactNamesOkRow.unfollowed==Tryz.prog.unfollowed 3))=true:=by kernel_rfl
theorem xna_k11:((Rows.fnExactNamesOkRow.recurses==Tryz.prog.recurses 3))=true:=by kernel_rfl
theorem xna_k12:((Rows.fnExactNamesOkRow.named==Tryz.prog.varsNamed 3))=true:=by kernel_rfl
theorem xna_k13:((Rows.fnExactNamesOkRow.maps==(Tryz.f3.params.toList++Rows.fnExactNamesOkSpec.plain.varTypes Tryz.prog).any (Tryz.prog.mapsRec ·)))=true:=by kernel_rfl
theorem xna_k14:((Rows.fnExactNamesOkRow.ifaces==(Tryz.f3.params.toList++Rows.fnExactNamesOkSpec.plain.varTypes Tryz.prog).any (Tryz.prog.ifacesRec ·)))=true:=by kernel_rfl
theorem xna_k15:((Rows.fnExactNamesOkRow.mapsOut==Tryz.prog.mapsAmong Tryz.f3.resultTypes.toList))=true:=by kernel_rfl
theorem xna_k16:((Rows.fnExactNamesOkRow.loops==(Tryz.f3.params.toList++Rows.fnExactNamesOkSpec.plain.varTypes Tryz.prog).any (Tryz.prog.loopsFrom ·)))=true:=by kernel_rfl
theorem xna_k17:((Rows.fnExactNamesOkRow.wideKeys==(Tryz.f3.params.toList++Rows.fnExactNamesOkSpec.plain.varTypes Tryz.prog++Tryz.f3.resultTypes.toList).any (Tryz.prog.wideKeysFrom ·)))=true:=by kernel_rfl
theorem xna_k18:(Rows.fnExactNamesOkSpec.vars.all (Tryz.prog.varReadable ·))=true:=by kernel_rfl
theorem xna_k19:(Tryz.f3.resultTypes.all (fun t=>Tryz.prog.readableRec t&&decide (t<Tryz.prog.types.size)))=true:=by kernel_rfl
theorem xna_k20:((Rows.fnExactNamesOkRow.ifacesOut==Tryz.f3.resultTypes.toList.any (Tryz.prog.ifacesRec ·)))=true:=by kernel_rfl
theorem xna_k21:((Rows.fnExactNamesOkRow.loopsOut==Tryz.f3.resultTypes.toList.any (Tryz.prog.loopsFrom ·)))=true:=by kernel_rfl
theorem xna_k22:((Rows.fnExactNamesOkRow.plainKeys==Tryz.prog.plainKeys))=true:=by kernel_rfl
theorem xna_k23:(Rows.fnExactNamesOkRow.shortTexts.isNone)=true:=by kernel_rfl
theorem xna_k24:(Tryz.prog.stopsHeard)=true:=by kernel_rfl
theorem xna_k25:(Tryz.prog.mayEnter)=true:=by kernel_rfl
theorem xna_k26:((Rows.fnExactNamesOkRow.lifted==Tryz.prog.liftsFinal))=true:=by kernel_rfl
theorem xna_k27:((Tryz.prog.make==some Rows.fnExactNamesOkRow.make))=true:=by kernel_rfl
theorem xna_k28:((Rows.fnExactNamesOkRow.kinds==(if Rows.fnExactNamesOkRow.domain.isEmpty then [] else Tryz.f3.params.toList.map fun t=>match Tryz.prog.underlying t with|some (.int k)=>some k|_=>none)))=true:=by kernel_rfl
theorem xna_k29:((Rows.fnExactNamesOkRow.pinned==Rows.fnExactNamesOkRow.pinnedBy))=true:=by kernel_rfl
theorem xna_k30:((Rows.fnExactNamesOkRow.veiled==(Tryz.f3.params.toList++Rows.fnExactNamesOkSpec.plain.varTypes Tryz.prog++Tryz.f3.resultTypes.toList).any (Tryz.prog.veiledRec ·)))=true:=by kernel_rfl
theorem xna_k31:(Rows.fnExactNamesOkRow.veiledFits Tryz.prog Tryz.f3.params.toList (Tryz.f3.params.toList++Rows.fnExactNamesOkSpec.plain.varTypes Tryz.prog++Tryz.f3.resultTypes.toList))=true:=by kernel_rfl
theorem xna_facts:joinedFacts Tryz.prog 3 Tryz.f3 Rows.fnExactNamesOkSpec Rows.fnExactNamesOkRow=true:=by
 unfold joinedFacts
 exact (and_mkna (and_mkna (and_mkna (and_mkna (and_mkna (and_mkna (and_mkna (and_mkna (and_mkna (and_mkna (and_mkna (and_mkna (and_mkna (and_mkna (and_mkna (and_mkna (and_mkna (and_mkna (and_mkna (and_mkna (and_mkna (and_mkna (and_mkna (and_mkna (and_mkna (and_mkna (and_mkna (and_mkna (and_mkna (and_mkna (and_mkna xna_k0 xna_k1) xna_k2) xna_k3) xna_k4) xna_k5) xna_k6) xna_k7) xna_k8) xna_k9) xna_k10) xna_k11) xna_k12) xna_k13) xna_k14) xna_k15) xna_k16) xna_k17) xna_k18) xna_k19) xna_k20) xna_k21) xna_k22) xna_k23) xna_k24) xna_k25) xna_k26) xna_k27) xna_k28) xna_k29) xna_k30) xna_k31)
end Go.Proofs.YtmdejbphoafjlaaGreatDoor
