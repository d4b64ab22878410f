import Derived.Test.YtgholpilmdebmaaGreatDoorZ51
import Derived.Test.YtgholpilmdebmaaGreatDoorCards
import Derived.Test.YtgholpilmdebmaaGreatDoorTie
import Derived.ProofKit
import Derived.OpenShut
import Derived.ShutString
import Derived.OpenVars
import Derived.ChangeOld
import Derived.ChangeSame
import Derived.LaidMore
import Derived.Lib.LaidU8
import Derived.Stop.LaidErr
import Derived.Stop.Joined
set_option maxHeartbeats 100000000
set_option maxRecDepth 100000
namespace Go.Proofs.YtgholpilmdebmaaGreatDoor
open Go.ChangeShapes Go.WideShapes Go.ChangeAt Go.RowKit Go.Lib
theorem own:ownKnob Tryz.prog.godebug=none:=by kernel_rfl
theorem laidOut:laidOutB Tryz.prog=true:=by kernel_rfl
theorem gP10:Tryz.prog.globalNamed "internal/strconv.uint64pow10"=some 3:=by kernel_rfl
theorem gB64:Tryz.prog.globalNamed "math/bits.deBruijn64tab"=some 6:=by kernel_rfl
theorem tP10:(Tryz.prog.globals[3]?).map (·.type)=some 174:=by kernel_rfl
theorem tB64:(Tryz.prog.globals[6]?).map (·.type)=some 186:=by kernel_rfl
theorem gSy:Tryz.prog.globalNamed "strconv.ErrSyntax"=some 0:=by kernel_rfl
theorem gRa:Tryz.prog.globalNamed "strconv.ErrRange"=some 1:=by kernel_rfl
theorem tSy:(Tryz.prog.globals[0]?).map (·.type)=some 53:=by kernel_rfl
theorem tRa:(Tryz.prog.globals[1]?).map (·.type)=some 53:=by kernel_rfl
theorem cellsE:Tryz.prog.cellsOf 171=1:=by kernel_rfl
theorem cellsS:Tryz.prog.cellsOf 9=1:=by kernel_rfl
theorem star: "*"++ "errors.errorString"= "*errors.errorString":=by decide
theorem rowE (u:TypeId) (h:Tryz.prog.typeName? 3 u=some "*errors.errorString"):u=169 :=
 typeName_ptr_named (nm:= "errors.errorString") (by rw[star];kernel_rfl) (by kernel_rfl) (by decide) u (by rw[star];exact h)
theorem tab_of {W:World}{name:String}{k:IntKind}{zs:List Int}{g:Nat}{t e:TypeId}{n:Nat}(hg:Tryz.prog.globalNamed name=some g) (hty:(Tryz.prog.globals[g]?).map (·.type)=some t) (ht:Tryz.prog.underlying t=some (.array n e)) (he:Tryz.prog.underlying e=some (.int k)) (hce:Tryz.prog.cellsOf e=1) (hct:Tryz.prog.cellsOf t=n)
  (h:VarReads Tryz.prog W name (tabData k zs)):TabIs Tryz.prog W name k zs:=by
 obtain⟨g',t',cs,fuel,p,hg',ht',hvar,hd⟩:=h;obtain rfl:=Option.some.inj (hg.symm.trans hg');obtain rfl:=Option.some.inj (hty.symm.trans ht');unfold TabIs;rw[hvar,← cells_of_tab ht he hce hct hd]
def laid5:List (String × DataW Unit):=[("math/bits.deBruijn32tab",Rows.laid_math_bits_deBruijn32tab),("math/bits.deBruijn64tab",Rows.laid_math_bits_deBruijn64tab),("internal/strconv.uint64pow10",Rows.laid_internal_strconv_uint64pow10),("strconv.ErrRange",Rows.laid_strconv_ErrRange),("strconv.ErrSyntax",Rows.laid_strconv_ErrSyntax)]
def tab64:List Int:=[0,1,56,2,57,49,28,3,61,58,42,50,38,29,17,4,62,47,59,36,45,43,51,22,53,39,33,30,24,18,12,5,63,55,48,27,60,41,37,16,46,35,44,21,52,32,23,11,54,26,40,15,34,20,31,10,25,14,19,9,13,8,7,6]
theorem env_laid {W:World}(h:laidMetH Tryz.prog laid5 W):LEnv W:=by
 rw[MakeChecks.laidMetH_plain _ _ _ (by kernel_rfl)]at h
 have r1:VarReads Tryz.prog W "math/bits.deBruijn64tab" (tabData .u8 tab64):=laidMet.reads h (by unfold laid5;simp only[List.mem_cons];exact .inr (.inl rfl))
 have r2:VarReads Tryz.prog W "internal/strconv.uint64pow10" (tabData .u64 pow10Tab):=laidMet.reads h (by unfold laid5;simp only[List.mem_cons];exact .inr (.inr (.inl (by rfl))))
 have t1:=tab_of gB64 tB64 Tryz.underlying186 Tryz.underlying5 (by kernel_rfl) (by kernel_rfl) r1;have t2:=tab_of gP10 tP10 Tryz.underlying174 Tryz.underlying59 (by kernel_rfl) (by kernel_rfl) r2;have c1:W.cell? ⟨6,15,none⟩=some (.int .u8 4):=t1.cell gB64 15 (by decide)
 have h3:laidMet Tryz.prog [("strconv.ErrRange",Rows.laid_strconv_ErrRange),("strconv.ErrSyntax",Rows.laid_strconv_ErrSyntax)] W:=h.tail.tail.tail
 obtain⟨x,s,hv,_,_,_⟩:=laid_sentinel h3 gRa tRa Tryz.underlying53 rowE Tryz.underlying169 Tryz.underlying171 rfl rfl Tryz.underlying9 cellsE cellsS;obtain⟨y,s2,hv2,_,_,_⟩:=laid_sentinel h3.tail gSy tSy Tryz.underlying53 rowE Tryz.underlying169 Tryz.underlying171 rfl rfl Tryz.underlying9 cellsE cellsS;have cR:W.cell? ⟨1,0,none⟩=some (.iface 169 (.pointer (some x))):=by simpa using World.var?_cell gRa hv 0
 have cS:W.cell? ⟨0,0,none⟩=some (.iface 169 (.pointer (some y))):=by simpa using World.var?_cell gSy hv2 0
 exact⟨t2,lt_of_cell c1,c1,⟨_,_,cS⟩,⟨_,_,cR⟩,lt_of_cell cS,lt_of_cell cR⟩
theorem door_met (os:Os) (args:Array Value):laidMetH Tryz.prog laid5 ((World.doorLaid Tryz.prog 400 os).forCall (fun _ _=>0) ⟨#[],args,[]⟩).memory :=
 laidMetH_of_parts3 (fuel:=8) (laidMet_of_run' 8 (by kernel_rfl) (by kernel_rfl)) (by kernel_rfl) (by kernel_rfl)
theorem rdb_of {w:World}{x:Addr}{len cap:Nat}{zs:List Int}(hl:len≤zs.length) (hm:zs.length≤maxLen)
  (hcell:∀ i,i<zs.length→w.cell? (x.add i)=some (.int .u8 (zs.getD i 0))) (hw:∀ n∈zs,(Lit.int .u8 n).wf=true):RdB w (.slice (some x) len cap) (zs.take len):=by
 unfold maxLen at hm;have hlen:(zs.take len).length=len:=by simp;omega
 have h3:∀ n∈zs,isB n:=fun n hn=>by
  have h2:=hw n hn;simp only[Lit.wf,IntKind.min,IntKind.max,IntKind.signed,IntKind.bits,Bool.and_eq_true]at h2;unfold isB;simpa using h2
 refine⟨some x,cap,by rw[hlen],by rw[hlen];omega,fun j=>?_,fun j hj=>?_⟩
 ·rw[List.getD_eq_getElem?_getD];rcases Nat.lt_or_ge j (zs.take len).length with h|h
  ·rw[List.getElem?_eq_getElem h];exact h3 _ (List.mem_of_mem_take (List.getElem_mem _))
  ·rw[List.getElem?_eq_none h];exact⟨by simp,by simp⟩
 ·rw[hlen]at hj;obtain⟨b,off,rfl,hc⟩:=ints_at hcell (by omega);have h1:=hc j (by omega);refine⟨b,off,rfl,lt_of_cell h1,?_⟩;rw[h1,List.getD_eq_getElem?_getD,List.getD_eq_getElem?_getD,List.getElem?_take_of_lt hj]
theorem bytes_of {w:World}{a:Option Addr}{len cap:Nat}{zs:List Int}(h:RdB w (.slice a len cap) zs):Bytes w a len:=by
 obtain⟨a',cap',e,hl,hz,hc⟩:=h
 injection e with e1 e2 _
 subst e1 e2;refine⟨hl,fun j hj=>?_⟩;obtain⟨b,off,e,hb,hv⟩:=hc j hj;exact⟨b,off,_,e,hb,hv,(hz j).1,(hz j).2⟩
end Go.Proofs.YtgholpilmdebmaaGreatDoor
namespace Go.Proofs.YtgholpilmdebmaaGreatDoor
open Go.ChangeShapes Go.WideShapes Go.ChangeAt Go.RowKit
theorem xtk_lifted (os:Os) (started:os.Started) (H:Type) (enc:TypeId × Value→H) :
  ReturnsInHanded {} Tryz.checked os 3 .any (fun w args=>(Rows.fnTokensSpec.pre enc Tryz.prog Tryz.f3 [] false w args∧laidMetH Tryz.prog laid5 w)∧sizedMet enc Tryz.prog Tryz.f3 (OpenSpec.ofChange Rows.fnTokensSpec) false w args)
   (Rows.fnTokensSpec.post enc Tryz.prog Tryz.f3 false true false false):=by
 refine returnsInHanded_of_change_and (C:=Tryz.checked) (X:=fun w _=>laidMetH Tryz.prog laid5 w) (fun _ _ _ hh h=>h.of_heap hh) own started (by kernel_rfl) Tryz.func3
  (ChangeSpec.witness_shaped (enc:=enc) (C:=Tryz.checked) (os:=os) (X:=fun w _=>laidMetH Tryz.prog laid5 w) false (World.doorLaid Tryz.prog 400 os) #[.slice none 0 0] 8 rfl (World.shaped_of_RefB (by kernel_rfl) (by kernel_rfl)) (by kernel_rfl) (by kernel_rfl) (by kernel_rfl) (door_met os _)) ?_
 intro W base args ds gs before hval0 hW _ _ hL _;have hval:∀ (j:Nat) t v,Tryz.f3.params[j]?=some t→args[j]?=some v→Value.okWide Tryz.prog W .any base t v:=hval0;have hW':=hW;obtain⟨p,q,hA0,hV,rfl,hfz,hnd⟩:=hW;have hA:DataW.TrodAll enc Tryz.prog W 0 (fun _=>true) true Tryz.f3.params.toList args.toList ds p:=hA0;rw[Tryz.params3]at hA hval;obtain⟨v0,vs0,d0,ds0,p0,q0,hargs,rfl,rfl,h0,r0⟩:=trodAll_cons hA;obtain⟨rfl,rfl,rfl⟩:=trodAll_nil r0;obtain rfl:args=#[v0]:=by cases args;simp_all
 obtain⟨rfl,rfl⟩:=trodVars_none hV;obtain⟨a0,len0,cap0,rfl⟩:=okWide_slice Tryz.underlying22 (hval 0 22 v0 rfl rfl);have k0:=h0;have lt0:∀ x∈p0,x.block<W.heap.size:=by obtain⟨m,hm⟩:=k0;exact DataW.trod_lt m _ _ _ hm
 obtain⟨zs0,w0⟩:∃ zs,RdB W (.slice a0 len0 cap0) zs:=by
  obtain⟨fuel,hf⟩:=h0;rcases open_ints Tryz.underlying22 Tryz.underlying5 (by kernel_rfl) hf with ⟨hcs,_⟩|⟨x,l,c,zs,hcs,_,hl,hm,hz,_,hcell,hwz⟩
  ·simp[Value.cells]at hcs;obtain⟨rfl,rfl,rfl⟩:=hcs;exact⟨[],RdB.nil W⟩
  ·simp[Value.cells]at hcs;obtain⟨rfl,rfl,rfl⟩:=hcs;have hz':zs.length=cap0:=by simpa using hz
   exact⟨_,rdb_of (by omega) (by rw[hz'];exact hm) hcell hwz⟩
 clear hA0 hval0;refine (lawtok_any cap0 (bytes_of w0) (env_laid hL)).mono fun e W' ⟨he,bel⟩=>?_;subst he;exact⟨_,rfl,_,_,_,[],_,[],hW',trodAll_mk1 (shut_bool Tryz.underlying4 _),(trodAll_cons_mk (Below.trod laidOut (by kernel_rfl) (of_decide_eq_true (by kernel_rfl)) k0 bel lt0) trodAll_mk0),rfl,Below.frame bel _,fun h=>by cases h⟩
end Go.Proofs.YtgholpilmdebmaaGreatDoor
