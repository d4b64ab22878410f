/- What may be and what may not, by small sources: the law FnRules returns true, without a condition; the eight variables on its road (impl.opSigns, impl.intTy, impl.floatTy, three tables and two errors of the library) are tied to the text of the program (over the pruned copy of the project that the seat holds). -/
import Derived.Test.YtgaddpkkjebekaaGreatDoorZ56
set_option maxHeartbeats 100000000
set_option maxRecDepth 100000
namespace Go.Proofs.YtgaddpkkjebekaaGreatDoor
open Go.ChangeShapes Go.WideShapes Go.ChangeAt Go.RowKit
theorem bD {a b:Bool}(ha:a=true) (hb:b=true):(a&&b)=true:=by rw[ha,hb];rfl
theorem Ui:(Rows.fnRulesRow.wf (OpenSpec.ofChange Rows.fnRulesSpec))=true:=by kernel_rfl
theorem Uh:(laidOutB Tryz.prog)=true:=by kernel_rfl
theorem Ug:(mapsRowed Tryz.prog)=true:=by kernel_rfl
theorem Uf:(Tryz.f3.params.all (Tryz.prog.readableRec ·))=true:=by kernel_rfl
theorem Ue:(namedTie Tryz.prog Rows.fnRulesRow.named Rows.fnRulesSpec.vars)=true:=by kernel_rfl
theorem Ud:((Rows.fnRulesRow.stops==[]))=true:=by kernel_rfl
theorem Uc:((Tryz.prog.stops==[]))=true:=by kernel_rfl
theorem Ub:((Rows.fnRulesRow.knobs==[]))=true:=by kernel_rfl
theorem Ua:((Tryz.prog.stopKnobs==[]))=true:=by kernel_rfl
theorem TZ:((Rows.fnRulesRow.inPlace==Tryz.prog.inPlace 3))=true:=by kernel_rfl
theorem Q8:((Rows.fnRulesRow.unfollowed==Tryz.prog.unfollowed 3))=true:=by kernel_rfl
theorem Q7:((Rows.fnRulesRow.recurses==Tryz.prog.recurses 3))=true:=by kernel_rfl
theorem Q5:((Rows.fnRulesRow.named==Tryz.prog.varsNamed 3))=true:=by kernel_rfl
theorem Q4:((Rows.fnRulesRow.maps==(Tryz.f3.params.toList++Rows.fnRulesSpec.plain.varTypes Tryz.prog).any (Tryz.prog.mapsRec ·)))=true:=by kernel_rfl
theorem Q3:((Rows.fnRulesRow.ifaces==(Tryz.f3.params.toList++Rows.fnRulesSpec.plain.varTypes Tryz.prog).any (Tryz.prog.ifacesRec ·)))=true:=by kernel_rfl
theorem QZ:((Rows.fnRulesRow.mapsOut==Tryz.prog.mapsAmong Tryz.f3.resultTypes.toList))=true:=by kernel_rfl
theorem QY:((Rows.fnRulesRow.loops==(Tryz.f3.params.toList++Rows.fnRulesSpec.plain.varTypes Tryz.prog).any (Tryz.prog.loopsFrom ·)))=true:=by kernel_rfl
theorem QX:((Rows.fnRulesRow.wideKeys==(Tryz.f3.params.toList++Rows.fnRulesSpec.plain.varTypes Tryz.prog++Tryz.f3.resultTypes.toList).any (Tryz.prog.wideKeysFrom ·)))=true:=by kernel_rfl
theorem QW:(Rows.fnRulesSpec.vars.all (Tryz.prog.varReadable ·))=true:=by kernel_rfl
theorem QV:(Tryz.f3.resultTypes.all (fun t=>Tryz.prog.readableRec t&&decide (t<Tryz.prog.types.size)))=true:=by kernel_rfl
theorem QU:((Rows.fnRulesRow.ifacesOut==Tryz.f3.resultTypes.toList.any (Tryz.prog.ifacesRec ·)))=true:=by kernel_rfl
theorem QT:((Rows.fnRulesRow.loopsOut==Tryz.f3.resultTypes.toList.any (Tryz.prog.loopsFrom ·)))=true:=by kernel_rfl
theorem QS:((Rows.fnRulesRow.plainKeys==Tryz.prog.plainKeys))=true:=by kernel_rfl
theorem QR:(Rows.fnRulesRow.shortTexts.isNone)=true:=by kernel_rfl
theorem QQ:(Tryz.prog.stopsHeard)=true:=by kernel_rfl
theorem QP:(Tryz.prog.mayEnter)=true:=by kernel_rfl
theorem QO:((Rows.fnRulesRow.lifted==Tryz.prog.liftsFinal))=true:=by kernel_rfl
theorem QN:((Tryz.prog.make==some Rows.fnRulesRow.make))=true:=by kernel_rfl
theorem QM:((Rows.fnRulesRow.kinds==(if Rows.fnRulesRow.domain.isEmpty then [] else Tryz.f3.params.toList.map fun t=>match Tryz.prog.underlying t with|some (.int k)=>some k|_=>none)))=true:=by kernel_rfl
theorem QL:((Rows.fnRulesRow.pinned==Rows.fnRulesRow.pinnedBy))=true:=by kernel_rfl
theorem QK:((Rows.fnRulesRow.veiled==(Tryz.f3.params.toList++Rows.fnRulesSpec.plain.varTypes Tryz.prog++Tryz.f3.resultTypes.toList).any (Tryz.prog.veiledRec ·)))=true:=by kernel_rfl
theorem QJ:(Rows.fnRulesRow.veiledFits Tryz.prog Tryz.f3.params.toList (Tryz.f3.params.toList++Rows.fnRulesSpec.plain.varTypes Tryz.prog++Tryz.f3.resultTypes.toList))=true:=by kernel_rfl
theorem KN:joinedFacts Tryz.prog 3 Tryz.f3 Rows.fnRulesSpec Rows.fnRulesRow=true:=by
 unfold joinedFacts;exact (bD (bD (bD (bD (bD (bD (bD (bD (bD (bD (bD (bD (bD (bD (bD (bD (bD (bD (bD (bD (bD (bD (bD (bD (bD (bD (bD (bD (bD (bD (bD Ui Uh) Ug) Uf) Ue) Ud) Uc) Ub) Ua) TZ) Q8) Q7) Q5) Q4) Q3) QZ) QY) QX) QW) QV) QU) QT) QS) QR) QQ) QP) QO) QN) QM) QL) QK) QJ)
theorem QI:Rows.FnRulesSaid :=
 OpenClaim.holds_of_wide 3 Tryz.f3 rfl rfl rfl rfl rfl rfl rfl ⟨rfl,rfl,rfl,rfl,rfl⟩ rfl rfl rfl rfl rfl (by kernel_rfl) Tryz.func3 KN
  (of_decide_eq_true (by kernel_rfl)) (by unfold Func.isWrapper;first|(rw[if_pos (by decide +kernel)];kernel_rfl)|(rw[if_neg (by decide +kernel)];exact⟨rfl,rfl⟩))
  (fun os started H enc _=>Hf os started H enc)
theorem xru_holds:Rows.FnRulesCardSaid :=
 Claim7.holds_tied_plain_at .later [] [.data,.data,.data,.sentinel,.sentinel,.data,.data,.data] true Rows.fnRulesCard.stood.harness true
  QI (fun _ h=>by cases h) (by kernel_rfl) (fun _ h=>by cases h) fnRules_row_tie rfl ⟨rfl,rfl⟩ (by kernel_rfl) rfl
  (fun f fn hf hfn=>by
   obtain rfl:f=3:=Option.some.inj ((show Tryz.prog.funcNamed "loop.example/g00306/laws.FnRules"=some 3 by kernel_rfl).symm.trans hf) |>.symm
   obtain rfl:fn=Tryz.f3:=(Option.some.inj (Tryz.func3.symm.trans hfn)).symm
   exact⟨by kernel_rfl,fun j t ht=>by
    rw[Tryz.params3]at ht;have hm:t∈#[22]:=Array.mem_of_getElem? ht;have hall:#[22].all (fun t=>!Tryz.prog.wantsStandIn t)=true:=by kernel_rfl
    have h1:=Array.all_eq_true_iff_forall_mem.1 hall t hm;have h2:Tryz.prog.wantsStandIn t=false:=by simpa using h1
    exact h2⟩)
  (by kernel_rfl)
end Go.Proofs.YtgaddpkkjebekaaGreatDoor
