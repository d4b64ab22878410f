import Derived.Test.YtgaddpkkjebekaaGreatDoorZ24
import Derived.Test.YtgaddpkkjebekaaGreatDoorZ10
import Derived.Test.YtgaddpkkjebekaaGreatDoorCards
import Derived.Test.YtgaddpkkjebekaaGreatDoorTie
import Derived.Test.YtgaddpkkjebekaaGreatDoorZ55
import Derived.ProofKit
import Derived.OpenShut
import Derived.ShutString
import Derived.ChangeOld
import Derived.Below
import Derived.OpenVars
import Derived.ChangeSame
import Derived.LaidMore
import Derived.Lib.LaidU8
import Derived.Stop.Joined
import Derived.Stop.LaidErr
set_option maxHeartbeats 100000000
set_option maxRecDepth 100000
namespace Go.Proofs.YtgaddpkkjebekaaGreatDoor
open Go.ChangeShapes Go.WideShapes Go.ChangeAt Go.RowKit Go.Lib
theorem lt_of_cell {w:World}{a:Addr}{v:Value}(h:w.cell? a=some v):a.block<w.heap.size:=by
 rcases Nat.lt_or_ge a.block w.heap.size with l|l
 ·exact l
 ·have:w.heap[a.block]?=none:=Array.getElem?_eq_none l;unfold World.cell? at h;rw[this]at h
  cases h
section
variable {H:Type}{enc:TypeId × Value->H}{W:World}
end
theorem gIt:Tryz.prog.globalNamed "loop.example/g00306/impl.intTy"=some 0:=by kernel_rfl
theorem gFt:Tryz.prog.globalNamed "loop.example/g00306/impl.floatTy"=some 1:=by kernel_rfl
theorem tIt:(Tryz.prog.globals[0]?).map (·.type)=some 52:=by kernel_rfl
theorem tFt:(Tryz.prog.globals[1]?).map (·.type)=some 52:=by kernel_rfl
theorem TT {W:World}{nm:String}{g:Nat}{a b:Int}(hg:Tryz.prog.globalNamed nm=some g) (ht:(Tryz.prog.globals[g]?).map (·.type)=some 52) (h:VarReads Tryz.prog W nm (.agg [.lit (.int .i64 a),.lit (.int .i64 b)])):W.cell? ⟨g,0,none⟩=some (.int .i64 a)/\W.cell? ⟨g,1,none⟩=some (.int .i64 b):=by
 obtain⟨g',t',cs,fuel,p,hg',ht',hvar,hd⟩:=h;obtain rfl:=Option.some.inj (hg.symm.trans hg');obtain rfl:=Option.some.inj (ht.symm.trans ht');obtain⟨y0,y1,n,hx,hl,d0,d1⟩:=trod_struct2 Tryz.underlying52 hd;have hc1:Tryz.prog.cellsOf 3=1:=by kernel_rfl
 obtain⟨n0,e0,rfl,_⟩:=DataW.trod_int Tryz.underlying3 d0;obtain⟨n1,e1,rfl,_⟩:=DataW.trod_int Tryz.underlying3 d1;have hx':=congrArg Prod.fst hx;simp only[DataW.agg.injEq,List.cons.injEq,DataW.lit.injEq,Lit.int.injEq,true_and,and_true]at hx';obtain⟨rfl,rfl⟩:=hx';have e0':(cs.toList.drop 0).take (Tryz.prog.cellsOf 3)=[.int .i64 a]:=e0;have e1':(cs.toList.drop 1).take (Tryz.prog.cellsOf 3)=[.int .i64 b]:=e1;rw[hc1]at e0' e1'
 have c0:cs[0]?=some (.int .i64 a):=by
  have:=congrArg (·[0]?) e0';simpa[List.getElem?_take,List.getElem?_drop] using this
 have c1:cs[1]?=some (.int .i64 b):=by
  have:=congrArg (·[0]?) e1';simpa[List.getElem?_take,List.getElem?_drop] using this
 exact⟨by rw[World.var?_cell hg hvar 0];exact c0,by rw[World.var?_cell hg hvar 1];exact c1⟩
theorem own:ownKnob Tryz.prog.godebug=none:=by kernel_rfl
theorem laidOut:laidOutB Tryz.prog=true:=by kernel_rfl
theorem gOp:Tryz.prog.globalNamed "loop.example/g00306/impl.opSigns"=some 5:=by kernel_rfl
theorem gP10:Tryz.prog.globalNamed "internal/strconv.uint64pow10"=some 6:=by kernel_rfl
theorem gB64:Tryz.prog.globalNamed "math/bits.deBruijn64tab"=some 9:=by kernel_rfl
theorem tOp:(Tryz.prog.globals[5]?).map (·.type)=some 236:=by kernel_rfl
theorem tP10:(Tryz.prog.globals[6]?).map (·.type)=some 242:=by kernel_rfl
theorem tB64:(Tryz.prog.globals[9]?).map (·.type)=some 253:=by kernel_rfl
theorem NR {W:World}{name:String}{k:IntKind}{zs:List Int}{g:Nat}{t e:TypeId}{n:Nat}(hg:Tryz.prog.globalNamed name=some g) (hty:(Tryz.prog.globals[g]?).map (·.type)=some t) (ht:Tryz.prog.underlying t=some (.array n e)) (he:Tryz.prog.underlying e=some (.int k)) (hce:Tryz.prog.cellsOf e=1) (hct:Tryz.prog.cellsOf t=n)
  (h:VarReads Tryz.prog W name (tabData k zs)):TabIs Tryz.prog W name k zs:=by
 obtain⟨g',t',cs,fuel,p,hg',ht',hvar,hd⟩:=h;obtain rfl:=Option.some.inj (hg.symm.trans hg');obtain rfl:=Option.some.inj (hty.symm.trans ht');unfold TabIs;rw[hvar,<- cells_of_tab ht he hce hct hd]
theorem NW {W:World}(h:VarReads Tryz.prog W "loop.example/g00306/impl.opSigns" Rows.laid_loop_example_g00306_impl_opSigns):∀ i:Nat,i<7->∃ s,W.cell? ⟨5,i,none⟩=some (.string s)/\bytesOf s=opL i:=by
 intro i hi;obtain⟨g',t',cs,fuel,p,hg',ht',hvar,hd⟩:=h;obtain rfl:=Option.some.inj (gOp.symm.trans hg');obtain rfl:=Option.some.inj (tOp.symm.trans ht');obtain⟨fuel',d,q,hdi,hr⟩:=array_elem Tryz.underlying236 hd i hi;have hc1:Tryz.prog.cellsOf 9=1:=by kernel_rfl
 rw[hc1,Nat.mul_one]at hr;obtain⟨s,hcs,hx,_⟩:=DataW.trod_string Tryz.underlying9 hr
 have hci:cs.toList[i]?=some (.string s):=by
  have:=congrArg (·[0]?) hcs;simpa[List.getElem?_take,List.getElem?_drop] using this
 refine⟨s,?_,?_⟩
 ·have:=World.var?_cell gOp hvar i;rw[this];simpa using hci
 ·have hd':d=.lit (.string s.data.toList):=congrArg Prod.fst hx;subst hd';have hb:∀ (l:List UInt8),s.data.toList=l->bytesOf s=l.map fun b=>(b.toNat:Int):=fun l h=>by unfold bytesOf;rw[h]
  obtain rfl|rfl|rfl|rfl|rfl|rfl|rfl:i=0\/i=1\/i=2\/i=3\/i=4\/i=5\/i=6:=by omega
  all_goals
   simp at hdi;rw[hb _ hdi.symm];rfl
theorem gSy:Tryz.prog.globalNamed "strconv.ErrSyntax"=some 2:=by kernel_rfl
theorem gRa:Tryz.prog.globalNamed "strconv.ErrRange"=some 3:=by kernel_rfl
theorem tSy:(Tryz.prog.globals[2]?).map (·.type)=some 115:=by kernel_rfl
theorem tRa:(Tryz.prog.globals[3]?).map (·.type)=some 115:=by kernel_rfl
theorem cellsE:Tryz.prog.cellsOf 239=1:=by kernel_rfl
theorem cellsS:Tryz.prog.cellsOf 9=1:=by kernel_rfl
theorem star: "*"++ "errors.errorString"= "*errors.errorString":=by decide
theorem rowE (u:TypeId) (h:Tryz.prog.typeName? 3 u=some "*errors.errorString"):u=237 :=
 typeName_ptr_named (nm:= "errors.errorString") (by rw[star];kernel_rfl) (by kernel_rfl) (by decide) u (by rw[star];exact h)
theorem La {W:World}(h:VarReads Tryz.prog W "loop.example/g00306/impl.opSigns" Rows.laid_loop_example_g00306_impl_opSigns):∀ i:Nat,i<7->∃ s,W.cell? ⟨5,i,none⟩=some (.string s)/\Lit s (qx i):=by
 intro i hi;obtain⟨g',t',cs,fuel,p,hg',ht',hvar,hd⟩:=h;obtain rfl:=Option.some.inj (gOp.symm.trans hg');obtain rfl:=Option.some.inj (tOp.symm.trans ht');obtain⟨fuel',d,q,hdi,hr⟩:=array_elem Tryz.underlying236 hd i hi;have hc1:Tryz.prog.cellsOf 9=1:=by kernel_rfl
 rw[hc1,Nat.mul_one]at hr;obtain⟨s,hcs,hx,_⟩:=DataW.trod_string Tryz.underlying9 hr
 have hci:cs.toList[i]?=some (.string s):=by
  have:=congrArg (·[0]?) hcs;simpa[List.getElem?_take,List.getElem?_drop] using this
 refine⟨s,?_,?_⟩
 ·have:=World.var?_cell gOp hvar i;rw[this];simpa using hci
 ·have hd':d=.lit (.string s.data.toList):=congrArg Prod.fst hx;subst hd'
  have hb:∀ (l:List UInt8) (zs:List Int),s.data.toList=l->zs.map (fun n=>UInt8.ofNat n.toNat)=l->zs.all (fun z=>decide (0<=z)&&decide (z<=255))=true->Lit s zs:=fun l zs h1 h2 h3=>⟨by rw[Dz,h1];exact h2,h3⟩
  obtain rfl|rfl|rfl|rfl|rfl|rfl|rfl:i=0\/i=1\/i=2\/i=3\/i=4\/i=5\/i=6:=by omega
  all_goals
   simp at hdi;exact hb _ _ hdi.symm rfl rfl
def rH:List (String × DataW Unit):=[("math/bits.deBruijn32tab",Rows.laid_math_bits_deBruijn32tab),("math/bits.deBruijn64tab",Rows.laid_math_bits_deBruijn64tab),("internal/strconv.uint64pow10",Rows.laid_internal_strconv_uint64pow10),("strconv.ErrRange",Rows.laid_strconv_ErrRange),("strconv.ErrSyntax",Rows.laid_strconv_ErrSyntax),("loop.example/g00306/impl.opSigns",Rows.laid_loop_example_g00306_impl_opSigns),("loop.example/g00306/impl.intTy",Rows.laid_loop_example_g00306_impl_intTy),("loop.example/g00306/impl.floatTy",Rows.laid_loop_example_g00306_impl_floatTy)]
def tab64:List Int:=[0,1,56,2,57,49,28,3,61,58,42,50,38,29,17,4,62,47,59,36,45,43,51,22,53,39,33,30,24,18,12,5,63,55,48,27,60,41,37,16,46,35,44,21,52,32,23,11,54,26,40,15,34,20,31,10,25,14,19,9,13,8,7,6]
theorem Qn {W:World}(h:laidMetH Tryz.prog rH W):Env W/\TyE W/\vN W/\OpE W:=by
 rw[MakeChecks.laidMetH_plain _ _ _ (by kernel_rfl)]at h
 have r1:VarReads Tryz.prog W "math/bits.deBruijn64tab" (tabData .u8 tab64):=laidMet.reads h (by unfold rH;simp only[List.mem_cons];exact .inr (.inl rfl))
 have r2:VarReads Tryz.prog W "internal/strconv.uint64pow10" (tabData .u64 pow10Tab):=laidMet.reads h (by unfold rH;simp only[List.mem_cons];exact .inr (.inr (.inl (by rfl))))
 have r3:VarReads Tryz.prog W "loop.example/g00306/impl.opSigns" Rows.laid_loop_example_g00306_impl_opSigns:=laidMet.reads h (by unfold rH;simp only[List.mem_cons];exact .inr (.inr (.inr (.inr (.inr (.inl trivial))))))
 have r4:VarReads Tryz.prog W "loop.example/g00306/impl.intTy" Rows.laid_loop_example_g00306_impl_intTy:=laidMet.reads h (by unfold rH;simp only[List.mem_cons];exact .inr (.inr (.inr (.inr (.inr (.inr (.inl trivial)))))))
 have r5:VarReads Tryz.prog W "loop.example/g00306/impl.floatTy" Rows.laid_loop_example_g00306_impl_floatTy:=laidMet.reads h (by unfold rH;simp only[List.mem_cons];exact .inr (.inr (.inr (.inr (.inr (.inr (.inr (.inl trivial))))))))
 have t1:=NR gB64 tB64 Tryz.underlying253 Tryz.underlying5 (by kernel_rfl) (by kernel_rfl) r1;have t2:=NR gP10 tP10 Tryz.underlying242 Tryz.underlying121 (by kernel_rfl) (by kernel_rfl) r2;have s3:=NW r3;have s4:=La r3;have c1:W.cell? ⟨9,15,none⟩=some (.int .u8 4):=t1.cell gB64 15 (by decide);obtain⟨s,hs,_⟩:=s3 0 (by decide);have i1:=TT gIt tIt r4;have f1:=TT gFt tFt r5;have h3:laidMet Tryz.prog (rH.drop 3) W:=h.tail.tail.tail;obtain⟨x,s,hv,_,_,_⟩:=laid_sentinel h3 gRa tRa Tryz.underlying115 rowE Tryz.underlying237 Tryz.underlying239 rfl rfl Tryz.underlying9 cellsE cellsS;obtain⟨y,s2,hv2,_,_,_⟩:=laid_sentinel h3.tail gSy tSy Tryz.underlying115 rowE Tryz.underlying237 Tryz.underlying239 rfl rfl Tryz.underlying9 cellsE cellsS;have cR:W.cell? ⟨3,0,none⟩=some (.iface 237 (.pointer (some x))):=by simpa using World.var?_cell gRa hv 0
 have cS:W.cell? ⟨2,0,none⟩=some (.iface 237 (.pointer (some y))):=by simpa using World.var?_cell gSy hv2 0
 have ex:∀ i:Nat,∃ s:ByteArray,i<7->W.cell? ⟨5,i,none⟩=some (.string s)/\Lit s (qx i):=fun i=>by
  by_cases q:i<7
  ·obtain⟨s,a,b⟩:=s4 i q;exact⟨s,fun _=>⟨a,b⟩⟩
  ·exact⟨ByteArray.empty,fun z=>absurd z q⟩
 exact⟨Vr "internal/strconv.uint64pow10" rfl t2 (lt_of_cell c1) c1 (lt_of_cell hs) s3,⟨i1.1,i1.2,f1.1,f1.2⟩,⟨t2,lt_of_cell c1,c1,⟨_,_,cS⟩,⟨_,_,cR⟩,lt_of_cell cS,lt_of_cell cR⟩,lt_of_cell hs,fun i=>Classical.choose (ex i),fun j hj=>Classical.choose_spec (ex j) hj⟩
theorem door_met (os:Os) (args:Array Value):laidMetH Tryz.prog rH ((World.doorLaid Tryz.prog 400 os).forCall (fun _ _=>0) ⟨#[],args,[]⟩).memory :=
 laidMetH_of_parts3 (fuel:=8) (laidMet_of_run' 8 (by kernel_rfl) (by kernel_rfl)) (by kernel_rfl) (by kernel_rfl)
theorem Hf (os:Os) (started:os.Started) (H:Type) (enc:TypeId × Value->H) :
  ReturnsInHanded {} Tryz.checked os 3 .any (fun w args=>(Rows.fnRulesSpec.pre enc Tryz.prog Tryz.f3 [] false w args/\laidMetH Tryz.prog rH w)/\sizedMet enc Tryz.prog Tryz.f3 (OpenSpec.ofChange Rows.fnRulesSpec) false w args)
   (Rows.fnRulesSpec.post enc Tryz.prog Tryz.f3 false true false false):=by
 refine returnsInHanded_of_change_and (C:=Tryz.checked) (X:=fun w _=>laidMetH Tryz.prog rH w) (fun _ _ _ hh h=>h.of_heap hh) own started (by kernel_rfl) Tryz.func3
  (ChangeSpec.witness_shaped (enc:=enc) (C:=Tryz.checked) (os:=os) (X:=fun w _=>laidMetH Tryz.prog rH w) false (World.doorLaid Tryz.prog 400 os) #[.slice none 0 0] 8 rfl (World.shaped_of_RefB (by kernel_rfl) (by kernel_rfl)) (by kernel_rfl) (by kernel_rfl) (by kernel_rfl) (door_met os _)) ?_
 intro W base args ds gs before hval0 hW _ _ hL _;have hW':=hW;obtain⟨p,q,hA0,hV0,rfl,hfz,hnd⟩:=hW;have hA:DataW.TrodAll enc Tryz.prog W 0 (fun _=>true) true Tryz.f3.params.toList args.toList ds p:=hA0
 have hV:DataW.TrodVars enc Tryz.prog W (fun _=>true) ["loop.example/g00306/impl.opSigns","loop.example/g00306/impl.intTy","loop.example/g00306/impl.floatTy"] gs q:=hV0
 rw[Tryz.params3]at hA;obtain⟨v0,vs0,d0,ds0,p0,q0,hargs,rfl,rfl,h0,r0⟩:=trodAll_cons hA;obtain⟨rfl,rfl,rfl⟩:=trodAll_nil r0;obtain rfl:args=#[v0]:=by cases args;simp_all
 obtain⟨hE,hTy,hLE,hO⟩:=Qn hL;have k0:=h0;have lt0:∀ x∈p0,x.block<W.heap.size:=by obtain⟨m,hm⟩:=k0;exact DataW.trod_lt m _ _ _ hm
 obtain⟨g1,g2,g3,rfl⟩:∃ a b c,gs=[a,b,c]:=by
  cases gs with
  | nil=>exact hV.elim
  | cons a r =>
   obtain⟨_,_,_,_,_,_,_,_,_,_,hr,_⟩:=hV
   cases r with
   | nil=>exact hr.elim
   | cons b r =>
    obtain⟨_,_,_,_,_,_,_,_,_,_,hr2,_⟩:=hr
    cases r with
    | nil=>exact hr2.elim
    | cons c r =>
     obtain⟨_,_,_,_,_,_,_,_,_,_,hr3,_⟩:=hr2
     cases r with
     | nil=>exact⟨a,b,c,rfl⟩
     | cons d r=>exact hr3.elim
 clear hA0 hV0 hval0;refine (Ir v0 W hE hLE hO hTy).mono fun e W' ⟨he,bel⟩=>?_;subst he;exact⟨_,rfl,_,_,_,[],_,_,hW',trodAll_mk1 (shut_bool Tryz.underlying4 _),(trodAll_cons_mk (Below.trod laidOut (by kernel_rfl) (of_decide_eq_true (by kernel_rfl)) k0 bel lt0) trodAll_mk0),Below.trodVars laidOut bel (by kernel_rfl) hV,Below.frame bel _,fun h=>by cases h⟩
end Go.Proofs.YtgaddpkkjebekaaGreatDoor
