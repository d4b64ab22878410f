import Derived.Test.YtmdejbphoafjlaaGreatDoorGy
import Derived.Test.YtmdejbphoafjlaaGreatDoorHp
set_option maxHeartbeats 100000000
set_option maxRecDepth 100000
namespace Go.Proofs.YtmdejbphoafjlaaGreatDoor
open Go.ChangeShapes Go.WideShapes Go.ChangeAt Go.RowKit Go.Lib
theorem own:ownKnob Tryz.prog.godebug=none:=by kernel_rfl
theorem laidOut:laidOutB Tryz.prog=true:=by kernel_rfl
theorem gOp:Tryz.prog.globalNamed "loop.example/g00306/impl.opSigns"=some 2:=by kernel_rfl
theorem gP10:Tryz.prog.globalNamed "internal/strconv.uint64pow10"=some 3:=by kernel_rfl
theorem gB64:Tryz.prog.globalNamed "math/bits.deBruijn64tab"=some 7:=by kernel_rfl
theorem tOp:(Tryz.prog.globals[2]?).map (·.type)=some 263:=by kernel_rfl
theorem tP10:(Tryz.prog.globals[3]?).map (·.type)=some 298:=by kernel_rfl
theorem tB64:(Tryz.prog.globals[7]?).map (·.type)=some 305:=by kernel_rfl
theorem tab_of {W:World}{name:String}{k:IntKind}{zs:List Int}{g:Nat}{t e:TypeId}{n:Nat}(hg:Tryz.prog.globalNamed name=some g) (hty:(Tryz.prog.globals[g]?).map (·.type)=some t) (ht:Tryz.prog.underlying t=some (.array n e)) (he:Tryz.prog.underlying e=some (.int k)) (hce:Tryz.prog.cellsOf e=1) (hct:Tryz.prog.cellsOf t=n)
  (h:VarReads Tryz.prog W name (tabData k zs)):TabIs Tryz.prog W name k zs:=by
 obtain⟨g',t',cs,fuel,p,hg',ht',hvar,hd⟩:=h
 obtain rfl:=Option.some.inj (hg.symm.trans hg')
 obtain rfl:=Option.some.inj (hty.symm.trans ht')
 unfold TabIs
 rw[hvar,← cells_of_tab ht he hce hct hd]
theorem signs_of {W:World}(h:VarReads Tryz.prog W "loop.example/g00306/impl.opSigns" Rows.laid_loop_example_g00306_impl_opSigns):∀ i:Nat,i<7→∃ s,W.cell? ⟨2,i,none⟩=some (.string s)∧bytesOf s=opL i:=by
 intro i hi
 obtain⟨g',t',cs,fuel,p,hg',ht',hvar,hd⟩:=h
 obtain rfl:=Option.some.inj (gOp.symm.trans hg')
 obtain rfl:=Option.some.inj (tOp.symm.trans ht')
 obtain⟨fuel',d,q,hdi,hr⟩:=array_elem Tryz.underlying263 hd i hi
 have hc1:Tryz.prog.cellsOf 9=1:=by kernel_rfl
 rw[hc1,Nat.mul_one]at hr
 obtain⟨s,hcs,hx,_⟩:=DataW.trod_string Tryz.underlying9 hr
 have hci:cs.toList[i]?=some (.string s):=by
  have:=congrArg (·[0]?) hcs
  simpa[List.getElem?_take,List.getElem?_drop] using this
 refine⟨s,?_,?_⟩
 ·have:=World.var?_cell gOp hvar i
  rw[this]
  simpa using hci
 ·have hd':d=.lit (.string s.data.toList):=congrArg Prod.fst hx
  subst hd'
  have hb:∀ (l:List UInt8),s.data.toList=l→bytesOf s=l.map fun b=>(b.toNat:Int):=fun l h=>by unfold bytesOf;rw[h]
  obtain rfl|rfl|rfl|rfl|rfl|rfl|rfl:i=0∨i=1∨i=2∨i=3∨i=4∨i=5∨i=6:=by omega
  all_goals
   simp at hdi
   rw[hb _ hdi.symm]
   rfl
def laid6:List (String × DataW Unit):=[("math/bits.deBruijn32tab",Rows.laid_math_bits_deBruijn32tab),("math/bits.deBruijn64tab",Rows.laid_math_bits_deBruijn64tab),("internal/strconv.uint64pow10",Rows.laid_internal_strconv_uint64pow10),("loop.example/g00306/impl.opSigns",Rows.laid_loop_example_g00306_impl_opSigns),("loop.example/g00306/impl.intTy",Rows.laid_loop_example_g00306_impl_intTy),("loop.example/g00306/impl.floatTy",Rows.laid_loop_example_g00306_impl_floatTy)]
def tab64:List Int:=[0,1,56,2,57,49,28,3,61,58,42,50,38,29,17,4,62,47,59,36,45,43,51,22,53,39,33,30,24,18,12,5,63,55,48,27,60,41,37,16,46,35,44,21,52,32,23,11,54,26,40,15,34,20,31,10,25,14,19,9,13,8,7,6]
theorem env_laid {W:World}(h:laidMetH Tryz.prog laid6 W):Env W∧TyE W:=by
 rw[MakeChecks.laidMetH_plain _ _ _ (by kernel_rfl)]at h
 have r1:VarReads Tryz.prog W "math/bits.deBruijn64tab" (tabData .u8 tab64):=laidMet.reads h (by unfold laid6;simp only[List.mem_cons];exact .inr (.inl rfl))
 have r2:VarReads Tryz.prog W "internal/strconv.uint64pow10" (tabData .u64 pow10Tab):=laidMet.reads h (by unfold laid6;simp only[List.mem_cons];exact .inr (.inr (.inl (by rfl))))
 have r3:VarReads Tryz.prog W "loop.example/g00306/impl.opSigns" Rows.laid_loop_example_g00306_impl_opSigns:=laidMet.reads h (by unfold laid6;simp only[List.mem_cons];exact .inr (.inr (.inr (.inl trivial))))
 have r4:VarReads Tryz.prog W "loop.example/g00306/impl.intTy" Rows.laid_loop_example_g00306_impl_intTy:=laidMet.reads h (by unfold laid6;simp only[List.mem_cons];exact .inr (.inr (.inr (.inr (.inl trivial)))))
 have r5:VarReads Tryz.prog W "loop.example/g00306/impl.floatTy" Rows.laid_loop_example_g00306_impl_floatTy:=laidMet.reads h (by unfold laid6;simp only[List.mem_cons];exact .inr (.inr (.inr (.inr (.inr (.inl trivial))))))
 have t1:=tab_of gB64 tB64 Tryz.underlying305 Tryz.underlying5 (by kernel_rfl) (by kernel_rfl) r1
 have t2:=tab_of gP10 tP10 Tryz.underlying298 Tryz.underlying236 (by kernel_rfl) (by kernel_rfl) r2
 have s3:=signs_of r3
 have c1:W.cell? ⟨7,15,none⟩=some (.int .u8 4):=t1.cell gB64 15 (by decide)
 obtain⟨s,hs,_⟩:=s3 0 (by decide)
 have i1:=ty_of gIt tIt r4
 have f1:=ty_of gFt tFt r5
 exact⟨env_of "internal/strconv.uint64pow10" rfl t2 (lt_of_cell c1) c1 (lt_of_cell hs) s3,⟨i1.1,i1.2,f1.1,f1.2⟩⟩
theorem door_met (os:Os) (args:Array Value):laidMetH Tryz.prog laid6 ((World.doorLaid Tryz.prog 400 os).forCall (fun _ _=>0) ⟨#[],args,[]⟩).memory :=
 laidMetH_of_parts3 (fuel:=8) (laidMet_of_run' 8 (by kernel_rfl) (by kernel_rfl)) (by kernel_rfl) (by kernel_rfl)
end Go.Proofs.YtmdejbphoafjlaaGreatDoor
