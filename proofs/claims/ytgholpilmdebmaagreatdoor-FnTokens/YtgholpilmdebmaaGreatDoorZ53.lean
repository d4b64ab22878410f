/- The tokens of every text that is drawn stand one behind the other, and each begins where it says: the law FnTokens returns true at every slice of bytes and changes none, without a condition; the five variables on its road (three tables and two errors of the library) are tied to the text of the program (over the pruned copy of the project that the seat holds). -/
import Derived.Test.YtgholpilmdebmaaGreatDoorZ52
set_option maxHeartbeats 100000000
set_option maxRecDepth 100000
namespace Go.Proofs.YtgholpilmdebmaaGreatDoor
open Go.ChangeShapes Go.WideShapes Go.ChangeAt Go.RowKit
theorem zan {a b:Bool}(ha:a=true) (hb:b=true):(a&&b)=true:=by rw[ha,hb];rfl
theorem xtk_k0:(Rows.fnTokensRow.wf (OpenSpec.ofChange Rows.fnTokensSpec))=true:=by kernel_rfl
theorem xtk_k1:(laidOutB Tryz.prog)=true:=by kernel_rfl
theorem xtk_k2:(mapsRowed Tryz.prog)=true:=by kernel_rfl
theorem xtk_k3:(Tryz.f3.params.all (Tryz.prog.readableRec ·))=true:=by kernel_rfl
theorem xtk_k4:(namedTie Tryz.prog Rows.fnTokensRow.named Rows.fnTokensSpec.vars)=true:=by kernel_rfl
theorem xtk_k5:((Rows.fnTokensRow.stops==[]))=true:=by kernel_rfl
theorem xtk_k6:((Tryz.prog.stops==[]))=true:=by kernel_rfl
theorem xtk_k7:((Rows.fnTokensRow.knobs==[]))=true:=by kernel_rfl
theorem xtk_k8:((Tryz.prog.stopKnobs==[]))=true:=by kernel_rfl
theorem xtk_k9:((Rows.fnTokensRow.inPlace==Tryz.prog.inPlace 3))=true:=by kernel_rfl
theorem xtk_k10:((Rows.fnTokensRow.unfollowed==Tryz.prog.unfollowed 3))=true:=by kernel_rfl
theorem xtk_k11:((Rows.fnTokensRow.recurses==Tryz.prog.recurses 3))=true:=by kernel_rfl
theorem xtk_k12:((Rows.fnTokensRow.named==Tryz.prog.varsNamed 3))=true:=by kernel_rfl
theorem xtk_k13:((Rows.fnTokensRow.maps==(Tryz.f3.params.toList++Rows.fnTokensSpec.plain.varTypes Tryz.prog).any (Tryz.prog.mapsRec ·)))=true:=by kernel_rfl
theorem xtk_k14:((Rows.fnTokensRow.ifaces==(Tryz.f3.params.toList++Rows.fnTokensSpec.plain.varTypes Tryz.prog).any (Tryz.prog.ifacesRec ·)))=true:=by kernel_rfl
theorem xtk_k15:((Rows.fnTokensRow.mapsOut==Tryz.prog.mapsAmong Tryz.f3.resultTypes.toList))=true:=by kernel_rfl
theorem xtk_k16:((Rows.fnTokensRow.loops==(Tryz.f3.params.toList++Rows.fnTokensSpec.plain.varTypes Tryz.prog).any (Tryz.prog.loopsFrom ·)))=true:=by kernel_rfl
theorem xtk_k17:((Rows.fnTokensRow.wideKeys==(Tryz.f3.params.toList++Rows.fnTokensSpec.plain.varTypes Tryz.prog++Tryz.f3.resultTypes.toList).any (Tryz.prog.wideKeysFrom ·)))=true:=by kernel_rfl
theorem xtk_k18:(Rows.fnTokensSpec.vars.all (Tryz.prog.varReadable ·))=true:=by kernel_rfl
theorem xtk_k19:(Tryz.f3.resultTypes.all (fun t=>Tryz.prog.readableRec t&&decide (t<Tryz.prog.types.size)))=true:=by kernel_rfl
theorem xtk_k20:((Rows.fnTokensRow.ifacesOut==Tryz.f3.resultTypes.toList.any (Tryz.prog.ifacesRec ·)))=true:=by kernel_rfl
theorem xtk_k21:((Rows.fnTokensRow.loopsOut==Tryz.f3.resultTypes.toList.any (Tryz.prog.loopsFrom ·)))=true:=by kernel_rfl
theorem xtk_k22:((Rows.fnTokensRow.plainKeys==Tryz.prog.plainKeys))=true:=by kernel_rfl
theorem xtk_k23:(Rows.fnTokensRow.shortTexts.isNone)=true:=by kernel_rfl
theorem xtk_k24:(Tryz.prog.stopsHeard)=true:=by kernel_rfl
theorem xtk_k25:(Tryz.prog.mayEnter)=true:=by kernel_rfl
theorem xtk_k26:((Rows.fnTokensRow.lifted==Tryz.prog.liftsFinal))=true:=by kernel_rfl
theorem xtk_k27:((Tryz.prog.make==some Rows.fnTokensRow.make))=true:=by kernel_rfl
theorem xtk_k28:((Rows.fnTokensRow.kinds==(if Rows.fnTokensRow.domain.isEmpty then [] else Tryz.f3.params.toList.map fun t=>match Tryz.prog.underlying t with|some (.int k)=>some k|_=>none)))=true:=by kernel_rfl
theorem xtk_k29:((Rows.fnTokensRow.pinned==Rows.fnTokensRow.pinnedBy))=true:=by kernel_rfl
theorem xtk_k30:((Rows.fnTokensRow.veiled==(Tryz.f3.params.toList++Rows.fnTokensSpec.plain.varTypes Tryz.prog++Tryz.f3.resultTypes.toList).any (Tryz.prog.veiledRec ·)))=true:=by kernel_rfl
theorem xtk_k31:(Rows.fnTokensRow.veiledFits Tryz.prog Tryz.f3.params.toList (Tryz.f3.params.toList++Rows.fnTokensSpec.plain.varTypes Tryz.prog++Tryz.f3.resultTypes.toList))=true:=by kernel_rfl
theorem xtk_facts:joinedFacts Tryz.prog 3 Tryz.f3 Rows.fnTokensSpec Rows.fnTokensRow=true:=by
 unfold joinedFacts;exact (zan (zan (zan (zan (zan (zan (zan (zan (zan (zan (zan (zan (zan (zan (zan (zan (zan (zan (zan (zan (zan (zan (zan (zan (zan (zan (zan (zan (zan (zan (zan xtk_k0 xtk_k1) xtk_k2) xtk_k3) xtk_k4) xtk_k5) xtk_k6) xtk_k7) xtk_k8) xtk_k9) xtk_k10) xtk_k11) xtk_k12) xtk_k13) xtk_k14) xtk_k15) xtk_k16) xtk_k17) xtk_k18) xtk_k19) xtk_k20) xtk_k21) xtk_k22) xtk_k23) xtk_k24) xtk_k25) xtk_k26) xtk_k27) xtk_k28) xtk_k29) xtk_k30) xtk_k31)
theorem xtk_row:Rows.FnTokensSaid :=
 OpenClaim.holds_of_wide 3 Tryz.f3 rfl rfl rfl rfl rfl rfl rfl ⟨rfl,rfl,rfl,rfl,rfl⟩ rfl rfl rfl rfl rfl (by kernel_rfl) Tryz.func3 xtk_facts
  (of_decide_eq_true (by kernel_rfl)) (by unfold Func.isWrapper;first|(rw[if_pos (by decide +kernel)];kernel_rfl)|(rw[if_neg (by decide +kernel)];exact⟨rfl,rfl⟩))
  (fun os started H enc _=>xtk_lifted os started H enc)
theorem xtk_holds:Rows.FnTokensCardSaid :=
 Claim7.holds_tied_plain_at .later [] [.data,.data,.data,.sentinel,.sentinel] true Rows.fnTokensCard.stood.harness true
  xtk_row (fun _ h=>by cases h) (by kernel_rfl) (fun _ h=>by cases h) fnTokens_row_tie rfl ⟨rfl,rfl⟩ (by kernel_rfl) rfl
  (fun f fn hf hfn=>by
   obtain rfl:f=3:=Option.some.inj ((show Tryz.prog.funcNamed "loop.example/g00306/laws.FnTokens"=some 3 by kernel_rfl).symm.trans hf) |>.symm
   obtain rfl:fn=Tryz.f3:=(Option.some.inj (Tryz.func3.symm.trans hfn)).symm
   exact⟨by kernel_rfl,fun j t ht=>by
    rw[Tryz.params3]at ht;have hm:t∈#[22]:=Array.mem_of_getElem? ht;have hall:#[22].all (fun t=>!Tryz.prog.wantsStandIn t)=true:=by kernel_rfl
    have h1:=Array.all_eq_true_iff_forall_mem.1 hall t hm;have h2:Tryz.prog.wantsStandIn t=false:=by simpa using h1
    exact h2⟩)
  (by kernel_rfl)
end Go.Proofs.YtgholpilmdebmaaGreatDoor
