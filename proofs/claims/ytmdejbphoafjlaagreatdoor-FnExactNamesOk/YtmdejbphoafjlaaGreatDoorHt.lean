/- At every source impl.NamesOk answers as the model spec.NamesOk, and writes into no argument: the law FnExactNamesOk returns true, without a condition; the six variables on its road (impl.opSigns, impl.intTy, impl.floatTy and three tables of the library) are tied to the text of the program (over the pruned copy of the project that the seat holds). -/
import Derived.Test.YtmdejbphoafjlaaGreatDoorHr
import Derived.Test.YtmdejbphoafjlaaGreatDoorHs
set_option maxHeartbeats 100000000
set_option maxRecDepth 100000
namespace Go.Proofs.YtmdejbphoafjlaaGreatDoor
open Go.ChangeShapes Go.WideShapes Go.ChangeAt Go.RowKit
theorem xna_row:Rows.FnExactNamesOkSaid :=
 OpenClaim.holds_of_wide 3 Tryz.f3 rfl rfl rfl rfl rfl rfl rfl ⟨rfl,rfl,rfl,rfl,rfl⟩ rfl rfl rfl rfl rfl (by kernel_rfl) Tryz.func3 xna_facts
  (of_decide_eq_true (by kernel_rfl)) (by unfold Func.isWrapper;first|(rw[if_pos (by decide +kernel)];kernel_rfl)|(rw[if_neg (by decide +kernel)];exact⟨rfl,rfl⟩))
  (fun os started H enc _=>xna_lifted os started H enc)
theorem xna_holds:Rows.FnExactNamesOkCardSaid :=
 Claim7.holds_tied_plain_at .later [] [.data,.data,.data,.data,.data,.data] true Rows.fnExactNamesOkCard.stood.harness true
  xna_row (fun _ h=>by cases h) (by kernel_rfl) (fun _ h=>by cases h) fnExactNamesOk_row_tie rfl ⟨rfl,rfl⟩ (by kernel_rfl) rfl
  (fun f fn hf hfn=>by
   obtain rfl:f=3:=Option.some.inj ((show Tryz.prog.funcNamed "loop.example/g00306/laws.FnExactNamesOk"=some 3 by kernel_rfl).symm.trans hf) |>.symm
   obtain rfl:fn=Tryz.f3:=(Option.some.inj (Tryz.func3.symm.trans hfn)).symm
   exact⟨by kernel_rfl,fun j t ht=>by
    rw[Tryz.params3]at ht
    have hm:t∈#[25]:=Array.mem_of_getElem? ht
    have hall:#[25].all (fun t=>!Tryz.prog.wantsStandIn t)=true:=by kernel_rfl
    have h1:=Array.all_eq_true_iff_forall_mem.1 hall t hm
    have h2:Tryz.prog.wantsStandIn t=false:=by simpa using h1
    exact h2⟩)
  (by kernel_rfl)
end Go.Proofs.YtmdejbphoafjlaaGreatDoor
