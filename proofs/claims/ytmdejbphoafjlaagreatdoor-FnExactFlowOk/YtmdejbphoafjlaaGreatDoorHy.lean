/- At every source impl.FlowOk answers as the model spec.FlowOk, and writes into no argument: the law FnExactFlowOk returns true, without a condition; the six variables on its road (impl.opSigns, impl.intTy, impl.floatTy and three tables of the library) are tied to the text of the program (over the pruned copy of the project that the seat holds). -/
import Derived.Test.YtmdejbphoafjlaaGreatDoorHw
import Derived.Test.YtmdejbphoafjlaaGreatDoorHx
set_option maxHeartbeats 100000000
set_option maxRecDepth 100000
namespace Go.Proofs.YtmdejbphoafjlaaGreatDoor
open Go.ChangeShapes Go.WideShapes Go.ChangeAt Go.RowKit
theorem xfl_row:Rows.FnExactFlowOkSaid :=
 OpenClaim.holds_of_wide 4 Tryz.f4 rfl rfl rfl rfl rfl rfl rfl ⟨rfl,rfl,rfl,rfl,rfl⟩ rfl rfl rfl rfl rfl (by kernel_rfl) Tryz.func4 xfl_facts
  (of_decide_eq_true (by kernel_rfl)) (by unfold Func.isWrapper;first|(rw[if_pos (by decide +kernel)];kernel_rfl)|(rw[if_neg (by decide +kernel)];exact⟨rfl,rfl⟩))
  (fun os started H enc _=>xfl_lifted os started H enc)
theorem xfl_holds:Rows.FnExactFlowOkCardSaid :=
 Claim7.holds_tied_plain_at .later [] [.data,.data,.data,.data,.data,.data] true Rows.fnExactFlowOkCard.stood.harness true
  xfl_row (fun _ h=>by cases h) (by kernel_rfl) (fun _ h=>by cases h) fnExactFlowOk_row_tie rfl ⟨rfl,rfl⟩ (by kernel_rfl) rfl
  (fun f fn hf hfn=>by
   obtain rfl:f=4:=Option.some.inj ((show Tryz.prog.funcNamed "loop.example/g00306/laws.FnExactFlowOk"=some 4 by kernel_rfl).symm.trans hf) |>.symm
   obtain rfl:fn=Tryz.f4:=(Option.some.inj (Tryz.func4.symm.trans hfn)).symm
   exact⟨by kernel_rfl,fun j t ht=>by
    rw[Tryz.params4]at ht
    have hm:t∈#[25]:=Array.mem_of_getElem? ht
    have hall:#[25].all (fun t=>!Tryz.prog.wantsStandIn t)=true:=by kernel_rfl
    have h1:=Array.all_eq_true_iff_forall_mem.1 hall t hm
    have h2:Tryz.prog.wantsStandIn t=false:=by simpa using h1
    exact h2⟩)
  (by kernel_rfl)
end Go.Proofs.YtmdejbphoafjlaaGreatDoor
