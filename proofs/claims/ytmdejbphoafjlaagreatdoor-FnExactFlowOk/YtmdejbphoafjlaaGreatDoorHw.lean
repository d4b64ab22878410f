/- My texts F7, LFl, MFl in one. -/
import Derived.Test.YtmdejbphoafjlaaGreatDoorHv
import Derived.Test.YtmdejbphoafjlaaGreatDoorHo
import Derived.Test.YtmdejbphoafjlaaGreatDoorGd
import Derived.Test.YtmdejbphoafjlaaGreatDoorHq
import Derived.Deep.RegionHeld3
set_option maxHeartbeats 100000000
set_option maxRecDepth 100000
namespace Go.Proofs.YtmdejbphoafjlaaGreatDoor
open Go.RowKit Go.Maps
def So.flowB (x:So):Bool:=x.namesB&&x.funcs.all Fu.flowB
theorem sflowok_any (x:So) (v0 v1:Value) (w:World) (hg:Fu.goods x.funcs) (h0:RdL w 2 v0 (Sc.dats x.structs)) (h1:RdL w 5 v1 (Fu.dats x.funcs)) :
  Calls Tryz.prog 12 #[.agg #[v0,v1]] w (OkP x.flowB w):=by
 have hSO:=fun w' (l:Later w w')=>snames_any x v0 v1 w' hg (RdL.later l h0) (RdL.later l h1)
 obtain⟨sa,sc,rfl,hsl⟩:=Sc.slice h0
 obtain⟨fa,fc,rfl,hfl⟩:=Fu.slice h1
 have HA:Hid (∀ w' b,Later w w'→x.flowB=b→OkP x.flowB w (.returned (.bool b)) w'):=fun w' b l h=>⟨by rw[h],l⟩
 generalize hQ:OkP x.flowB w=Q at *
 clear hQ h0
 obtain⟨w1,hw1⟩:=hidx (w.alloc (.cells #[.slice sa x.structs.length sc,.slice fa x.funcs.length fc] 31))
 have L1:Later w w1:=by rw[hw1.out];exact later1 _ _
 have hb1:Bxx w1 w.heap.size [.slice sa x.structs.length sc,.slice fa x.funcs.length fc]:=by rw[hw1.out];exact Bxx.new _ _ _
 go_enter Tryz.func12,Tryz.ntmps12
 go_wp2_with fail
 rw[←hw1.out]
 refine (hSO w1 L1).mono ?_
 rintro e w2 ⟨rfl,l2⟩
 have L2:=L1.trans l2
 have hb2:=hb1.later l2
 clear hSO
 cases hok:x.namesB with
 | false =>
  have HZ:=HA.out w2 false L2 (by unfold So.flowB;rw[hok];rfl)
  clear HA
  go_wp2_with fail
  exact HZ
 | true =>
 have HNB:Hid (x.flowB=x.funcs.all Fu.flowB):=by unfold Hid So.flowB;rw[hok];rfl
 go_wp2_with fail
 go_loopw [3] (fun i wr=>∃ (j:Nat),i=.int .i64 (j:Int)∧j≤x.funcs.length∧Later w wr∧Bxx wr w.heap.size [.slice sa x.structs.length sc,.slice fa x.funcs.length fc]∧Hid (∀ i (hi:i<x.funcs.length),i<j→x.funcs[i].flowB=true)) (fun i _=>x.funcs.length - (intOf i).toNat)
 case atStart=>exact⟨0,rfl,Nat.zero_le _,L2,hb2,fun i _ hj=>absurd hj (Nat.not_lt_zero _)⟩
 case round =>
  obtain⟨j,rfl,hj,lr,hbr,HJ⟩:=hrel
  have b1:=(hbr.cell 1 _ rfl).1
  have bl:=hbr.lt
  by_cases hlt:j<x.funcs.length
  ·obtain⟨g,off,e0,e1,e2,rfl,hgs,d0,d1,d2,d3,d4,s0,s1,s2⟩:=Fu.elem (RdL.later lr h1) j hlt
   have i1:(j:Int)<(x.funcs.length:Int):=by omega
   have hB1:=sflow_all _ x.funcs[j].body e2 wr (Nat.le_refl _) s2
   have hC:=fun w' (q:Later wr w')=>sends_all _ x.funcs[j].body e2 w' (Nat.le_refl _) (RdL.later q s2)
   have HNo:Hid (x.funcs[j].flowB=false→x.flowB=false):=fun q=>by rw[HNB.out];exact allNo hlt q
   have HGo:Hid (x.funcs[j].flowB=true→∀ i (hi:i<x.funcs.length),i<j+1→x.funcs[i].flowB=true):=fun h1 i hi hij=>by
    rcases Nat.lt_or_ge i j with q|q
    ·exact HJ.out i hi q
    ·have:i=j:=by omega
     subst this
     exact h1
   have H1:Hid (x.funcs[j].flowB=(St.flows x.funcs[j].body&&((x.funcs[j].rk==0)||St.ends x.funcs[j].body))):=rfl
   obtain⟨z2,m2,rfl,_⟩:=St.slice s2
   have HD:Hid (∀ w',Later wr w'→w'.cell? ⟨g,off+j*5+2,none⟩=some (.int .i64 x.funcs[j].rk)∧w'.cell? ⟨g,off+j*5+4,none⟩=some (.slice z2 x.funcs[j].body.length m2)∧g<w'.heap.size):=fun w' q=>⟨by rw[Below.cell q (p:=⟨g,off+j*5+2,none⟩) hgs];exact d2,by rw[Below.cell q (p:=⟨g,off+j*5+4,none⟩) hgs];exact d4,Nat.lt_of_lt_of_le hgs q.size⟩
   clear HJ s0 s1 s2 h1 d0 d1 d2 d3 HNB
   generalize x.funcs[j].flowB=fl at *
   generalize St.flows x.funcs[j].body=fb at *
   generalize St.ends x.funcs[j].body=eb at *
   generalize x.funcs[j].rk=rk at *
   go_wp2_with fail
   refine hB1.mono ?_
   rintro e w3 ⟨rfl,l3⟩
   have hb3:=hbr.later l3
   have y1:=(hb3.cell 1 _ rfl).1
   have yl:=hb3.lt
   obtain⟨t2,t4,tg⟩:=HD.out w3 l3
   have hC1:=hC w3 l3
   have L3:=lr.trans l3
   clear hB1 hC HD b1 d4
   cases fb with
   | false =>
    have HZ:=HA.out w3 false L3 (HNo.out (by rw[H1.out];rfl))
    clear HA HNo HGo H1 hC1
    go_wp2_with fail
    exact HZ
   | true =>
    by_cases hk:rk=0
    ·subst hk
     have HZ:Hid _:=HGo.out (by rw[H1.out];rfl)
     clear HNo HGo H1 hC1
     go_wp2_with fail
     go_roundw
     case rel=>exact⟨j+1,by go_num,by omega,L3,hb3,HZ⟩
     case measure=>simp[intOf];omega
    ·have nk:=neb hk
     have HE:Hid (fl=eb):=by unfold Hid;rw[H1.out,nk];rfl
     clear H1
     go_wp2_with fail
     refine hC1.mono ?_
     rintro e w4 ⟨rfl,l4⟩
     have L4:=L3.trans l4
     have hb4:=hb3.later l4
     clear hC1
     cases eb with
     | false =>
      have HZ:=HA.out w4 false L4 (HNo.out HE.out)
      clear HA HNo HGo HE
      go_wp2_with fail
      exact HZ
     | true =>
      have HZ:Hid _:=HGo.out HE.out
      clear HNo HGo HE
      go_wp2_with fail
      go_roundw
      case rel=>exact⟨j+1,by go_num,by omega,L4,hb4,HZ⟩
      case measure=>simp[intOf];omega
  ·have i1:¬ (j:Int)<(x.funcs.length:Int):=by omega
   have i2:decide ((j:Int)<(x.funcs.length:Int))=false:=decide_eq_false i1
   have HZ:=HA.out wr true lr (by rw[HNB.out];exact allYes fun i hi=>HJ.out i hi (by omega))
   clear HA HJ h1
   go_wp2_with fail
   exact HZ
theorem iflowok_any (x:So) (v0 v1:Value) (w:World) (hE:Env w) (hty:TyE w) (hs:x.sz≤1048576) (hg:Fu.goods x.funcs) (h0:RdL w 2 v0 (Sc.dats x.structs)) (h1:RdL w 5 v1 (Fu.dats x.funcs)) :
  Calls Tryz.prog 13 #[.agg #[v0,v1]] w (OkP x.flowB w):=by
 have hO:=fun w' (l:Later w w')=>inames_any x v0 v1 w' (hE.later l) (hty.later l) hs hg (RdL.later l h0) (RdL.later l h1)
 have hW:=fun w' (l:Later w w')=>iflows_any x.funcs v0 v1 w' (by obtain⟨a,c,e,_⟩:=Sc.slice h0;exact⟨a,_,c,e⟩) (RdL.later l h1)
 obtain⟨sa,sc,rfl,hsl⟩:=Sc.slice h0
 obtain⟨fa,fc,rfl,hfl⟩:=Fu.slice h1
 have HA:Hid (∀ w' b,Later w w'→(x.namesB&&x.funcs.all Fu.flowB)=b→OkP x.flowB w (.returned (.bool b)) w'):=fun w' b l h=>⟨by unfold So.flowB;rw[h],l⟩
 generalize hQ:OkP x.flowB w=Q at *
 clear hQ h0 h1
 generalize x.namesB=nb at *
 generalize x.funcs.all Fu.flowB=fb at *
 obtain⟨w1,hw1⟩:=hidx (w.alloc (.cells #[.slice sa x.structs.length sc,.slice fa x.funcs.length fc] 31))
 have L1:Later w w1:=by rw[hw1.out];exact later1 _ _
 have hb1:Bxx w1 w.heap.size [.slice sa x.structs.length sc,.slice fa x.funcs.length fc]:=by rw[hw1.out];exact Bxx.new _ _ _
 have hO1:=hO w1 L1
 clear hO
 go_enter Tryz.func13,Tryz.ntmps13
 go_wp2_with fail
 rw[←hw1.out]
 refine hO1.mono ?_
 rintro e w2 ⟨rfl,l2⟩
 have L2:=L1.trans l2
 have hb2:=hb1.later l2
 have y0:=(hb2.cell 0 _ rfl).1
 have y1:=(hb2.cell 1 _ rfl).1
 have yl:=hb2.lt
 have hW1:=hW w2 L2
 clear hO1 hW
 cases nb with
 | false =>
  have HZ:=HA.out w2 false L2 rfl
  clear HA hW1
  go_wp2_with fail
  exact HZ
 | true =>
  go_wp2_with fail
  refine hW1.mono ?_
  rintro e w3 ⟨rfl,l3⟩
  have HZ:=HA.out w3 fb (L2.trans l3) rfl
  clear HA hW1
  cases fb
  all_goals
   go_wp2_with fail
   exact HZ
end Go.Proofs.YtmdejbphoafjlaaGreatDoor
namespace Go.Proofs.YtmdejbphoafjlaaGreatDoor
open Go.RowKit
theorem lawfl_any (x:So) (v0 v1:Value) (w:World) (hEn:Env w) (hTy:TyE w) (hg:Fu.goods x.funcs) (h0:RdL w 2 v0 (Sc.dats x.structs)) (h1:RdL w 5 v1 (Fu.dats x.funcs)) :
  Calls Tryz.prog 4 #[.agg #[v0,v1]] w fun e w'=>e=.returned (.bool true)∧Later w w':=by
 have hsz:=fun w' (l:Later w w')=>szSo_any x v0 v1 1048576 w' (RdL.later l h0) (RdL.later l h1) (by decide) (by decide)
 have hto:=fun (hs:x.sz≤1048576) w' (l:Later w w')=>toSo_any x v0 v1 w' (RdL.later l h0) (RdL.later l h1) hs
 obtain⟨a0,p0,rfl,_⟩:=Sc.slice h0
 obtain⟨a1,p1,rfl,_⟩:=Fu.slice h1
 have hB0:∀ o,Later w (w.alloc o):=fun o=>later1 w o
 clear h0 h1
 by_cases hs:x.sz≤1048576
 ·have hs':((x.sz:Nat):Int)≤1048576:=by omega
  rw[szR_pos hs']at hsz
  have hto':=hto hs
  have n0:¬ (1048576:Int) - ((x.sz:Nat):Int)<0:=by omega
  clear hto
  go_enter Tryz.func4,Tryz.ntmps4
  go_wp2_with fail
  refine (hsz _ (later1 _ _)).mono ?_
  rintro e w1 ⟨rfl,l1⟩
  have L1:Later w w1:=(later1 _ _).trans l1
  have y0:w1.cell? ⟨w.heap.size,0,none⟩=some (.slice a0 x.structs.length p0):=by rw[Below.cell l1 (p:=⟨w.heap.size,0,none⟩) (by simp)];simp
  have y1:w1.cell? ⟨w.heap.size,1,none⟩=some (.slice a1 x.funcs.length p1):=by rw[Below.cell l1 (p:=⟨w.heap.size,1,none⟩) (by simp)];simp
  have z1:w.heap.size<w1.heap.size:=by have:=l1.size;simp at this;omega
  clear l1
  go_wp2_with fail
  refine (hto' _ L1).mono ?_
  rintro e w2 ⟨b0,q0,b1,q1,F2,rfl,O2,l2⟩
  obtain⟨_,_,e2,r20,r21⟩:=So.view O2.rd
  cases e2
  have y0:w2.cell? ⟨w.heap.size,0,none⟩=some (.slice a0 x.structs.length p0):=by rw[Below.cell l2 (p:=⟨w.heap.size,0,none⟩) z1];exact y0
  have y1:w2.cell? ⟨w.heap.size,1,none⟩=some (.slice a1 x.funcs.length p1):=by rw[Below.cell l2 (p:=⟨w.heap.size,1,none⟩) z1];exact y1
  have z2:w.heap.size<w2.heap.size:=by have:=l2.size;omega
  have L2:=L1.trans l2
  clear l2
  go_wp2_with fail
  refine (sflowok_any x _ _ w2 hg r20 r21).mono ?_
  rintro e w3 ⟨rfl,l3⟩
  have y0:w3.cell? ⟨w.heap.size,0,none⟩=some (.slice a0 x.structs.length p0):=by rw[Below.cell l3 (p:=⟨w.heap.size,0,none⟩) z2];exact y0
  have y1:w3.cell? ⟨w.heap.size,1,none⟩=some (.slice a1 x.funcs.length p1):=by rw[Below.cell l3 (p:=⟨w.heap.size,1,none⟩) z2];exact y1
  have z3:w.heap.size<w3.heap.size:=by have:=l3.size;omega
  have L3:=L2.trans l3
  clear l3 r20 r21 O2
  go_wp2_with fail
  refine (hto' _ L3).mono ?_
  rintro e w4 ⟨b4,q4,b5,q5,F4,rfl,O4,l4⟩
  obtain⟨_,_,e4,r40,r41⟩:=So.view O4.rd
  cases e4
  have y0:w4.cell? ⟨w.heap.size,0,none⟩=some (.slice a0 x.structs.length p0):=by rw[Below.cell l4 (p:=⟨w.heap.size,0,none⟩) z3];exact y0
  have y1:w4.cell? ⟨w.heap.size,1,none⟩=some (.slice a1 x.funcs.length p1):=by rw[Below.cell l4 (p:=⟨w.heap.size,1,none⟩) z3];exact y1
  have z4:w.heap.size<w4.heap.size:=by have:=l4.size;omega
  have L4:=L3.trans l4
  have hI:=fun w' (l:Later w4 w')=>iflowok_any x _ _ w' (hEn.later (L4.trans l)) (hTy.later (L4.trans l)) hs hg (RdL.later l r40) (RdL.later l r41)
  clear l4 O4
  go_wp2_with fail
  refine (hI _ (later1 _ _)).mono ?_
  rintro e w5 ⟨rfl,l5⟩
  have L5:=(L4.alloc _).trans l5
  have M5:=(later1 w4 _).trans l5
  have y0:w5.cell? ⟨w.heap.size,0,none⟩=some (.slice a0 x.structs.length p0):=by rw[Below.cell M5 (p:=⟨w.heap.size,0,none⟩) z4];exact y0
  have y1:w5.cell? ⟨w.heap.size,1,none⟩=some (.slice a1 x.funcs.length p1):=by rw[Below.cell M5 (p:=⟨w.heap.size,1,none⟩) z4];exact y1
  have x0:w5.cell? ⟨w4.heap.size,0,none⟩=some (.slice b4 x.structs.length q4):=by rw[Below.cell l5 (p:=⟨w4.heap.size,0,none⟩) (by simp)];simp
  have x1:w5.cell? ⟨w4.heap.size,1,none⟩=some (.slice b5 x.funcs.length q5):=by rw[Below.cell l5 (p:=⟨w4.heap.size,1,none⟩) (by simp)];simp
  have z5:w.heap.size<w5.heap.size:=by have:=l5.size;simp at this;omega
  have zz5:w4.heap.size<w5.heap.size:=by have:=l5.size;simp at this;omega
  have hE:=fun w' v0 v1 (l:Later w5 w') (k0:RdL w' 2 v0 (Sc.dats x.structs)) (k1:RdL w' 5 v1 (Fu.dats x.funcs))=>eqSo_true x _ _ v0 v1 w' (RdL.later (M5.trans l) r40) (RdL.later (M5.trans l) r41) k0 k1
  have HS:Hid (∀ w',Later w5 w'→(Later w5 w'∧w'.cell? ⟨w.heap.size,0,none⟩=some (.slice a0 x.structs.length p0)∧w'.cell? ⟨w.heap.size,1,none⟩=some (.slice a1 x.funcs.length p1)∧w'.cell? ⟨w4.heap.size,0,none⟩=some (.slice b4 x.structs.length q4)∧w'.cell? ⟨w4.heap.size,1,none⟩=some (.slice b5 x.funcs.length q5))):=fun w' ll=>⟨ll,by rw[Below.cell ll (p:=⟨w.heap.size,0,none⟩) z5];exact y0,by rw[Below.cell ll (p:=⟨w.heap.size,1,none⟩) z5];exact y1,by rw[Below.cell ll (p:=⟨w4.heap.size,0,none⟩) zz5];exact x0,by rw[Below.cell ll (p:=⟨w4.heap.size,1,none⟩) zz5];exact x1⟩
  clear r40 r41 hI hsz l5 M5
  go_wp2_with fail
  go_region_held3 (fun w'=>Later w5 w'∧w'.cell? ⟨w.heap.size,0,none⟩=some (.slice a0 x.structs.length p0)∧w'.cell? ⟨w.heap.size,1,none⟩=some (.slice a1 x.funcs.length p1)∧w'.cell? ⟨w4.heap.size,0,none⟩=some (.slice b4 x.structs.length q4)∧w'.cell? ⟨w4.heap.size,1,none⟩=some (.slice b5 x.funcs.length q5)) (first|exact HS.out _ (Later.drew _)|exact HS.out _ ((Later.drew _).trans l6)|exact HS.out _ (((Later.drew _).trans l6).trans l7)) (first|(go_at_call 9;refine (hto' _ (L5.trans (Later.drew _))).mono ?_;rintro e w6 ⟨b6,q6,b7,q7,F6,rfl,O6,l6⟩;obtain⟨_,_,e6,r60,r61⟩:=So.view O6.rd;cases e6)|(go_at_call 11;refine (hE _ _ _ ((Later.drew _).trans l6) r60 r61).mono ?_;rintro e w7 ⟨rfl,l7⟩))
  all_goals
   go_wp2_with fail
   go_ret
   exact⟨rfl,L5.trans (((Later.drew _).trans l6).trans l7)⟩
 ·have hs':¬ ((x.sz:Nat):Int)≤1048576:=by omega
  rw[szR_neg hs']at hsz
  clear hto
  go_enter Tryz.func4,Tryz.ntmps4
  go_wp2_with fail
  refine (hsz _ (later1 _ _)).mono ?_
  rintro e w1 ⟨rfl,l1⟩
  go_wp2_with fail
  go_ret
  exact⟨rfl,(later1 _ _).trans l1⟩
end Go.Proofs.YtmdejbphoafjlaaGreatDoor
namespace Go.Proofs.YtmdejbphoafjlaaGreatDoor
open Go.ChangeShapes Go.WideShapes Go.ChangeAt Go.RowKit
theorem xfl_lifted (os:Os) (started:os.Started) (H:Type) (enc:TypeId × Value→H) :
  ReturnsInHanded {} Tryz.checked os 4 .any (fun w args=>(Rows.fnExactFlowOkSpec.pre enc Tryz.prog Tryz.f4 [] false w args∧laidMetH Tryz.prog laid6 w)∧sizedMet enc Tryz.prog Tryz.f4 (OpenSpec.ofChange Rows.fnExactFlowOkSpec) false w args)
   (Rows.fnExactFlowOkSpec.post enc Tryz.prog Tryz.f4 false true false false):=by
 refine returnsInHanded_of_change_and (C:=Tryz.checked) (X:=fun w _=>laidMetH Tryz.prog laid6 w) (fun _ _ _ hh h=>h.of_heap hh) own started (by kernel_rfl) Tryz.func4
  (ChangeSpec.witness_shaped (enc:=enc) (C:=Tryz.checked) (os:=os) (X:=fun w _=>laidMetH Tryz.prog laid6 w) false (World.doorLaid Tryz.prog 400 os) #[.agg #[.slice none 0 0,.slice none 0 0]] 8 rfl (World.shaped_of_RefB (by kernel_rfl) (by kernel_rfl)) (by kernel_rfl) (by kernel_rfl) (by kernel_rfl) (door_met os _)) ?_
 intro W base args ds gs before hval0 hW _ _ hL _
 have hval:∀ (j:Nat) t v,Tryz.f4.params[j]?=some t→args[j]?=some v→Value.okWide Tryz.prog W .any base t v:=hval0
 have hW':=hW
 obtain⟨p,q,hA0,hV0,rfl,hfz,hnd⟩:=hW
 have hA:DataW.TrodAll enc Tryz.prog W 0 (fun _=>true) true Tryz.f4.params.toList args.toList ds p:=hA0
 have hV:DataW.TrodVars enc Tryz.prog W (fun _=>true) ["loop.example/g00306/impl.opSigns","loop.example/g00306/impl.intTy","loop.example/g00306/impl.floatTy"] gs q:=hV0
 rw[Tryz.params4]at hA hval
 obtain⟨v0,vs0,d0,ds0,p0,q0,hargs,rfl,rfl,h0,r0⟩:=trodAll_cons hA
 obtain⟨rfl,rfl,rfl⟩:=trodAll_nil r0
 obtain rfl:args=#[v0]:=by cases args;simp_all
 obtain⟨hE,hTy⟩:=env_laid hL
 obtain⟨cs,rfl,hsz⟩:=okWide_struct Tryz.underlying25 (hval 0 25 v0 rfl rfl)
 have k0:=h0
 have lt0:∀ x∈p0,x.block<W.heap.size:=by obtain⟨m,hm⟩:=k0;exact DataW.trod_lt m _ _ _ hm
 obtain⟨fuel,hf⟩:=h0
 obtain⟨x,u0,u1,hcs,hg,w0,w1⟩:=openSo hf
 obtain rfl:cs=#[u0,u1]:=by cases cs;simpa[Value.cells] using hcs
 obtain⟨g1,g2,g3,rfl⟩:∃ a b c,gs=[a,b,c]:=by
  cases gs with
  | nil=>exact hV.elim
  | cons a r =>
   obtain⟨_,_,_,_,_,_,_,_,_,_,hr,_⟩:=hV
   cases r with
   | nil=>exact hr.elim
   | cons b r =>
    obtain⟨_,_,_,_,_,_,_,_,_,_,hr2,_⟩:=hr
    cases r with
    | nil=>exact hr2.elim
    | cons c r =>
     obtain⟨_,_,_,_,_,_,_,_,_,_,hr3,_⟩:=hr2
     cases r with
     | nil=>exact⟨a,b,c,rfl⟩
     | cons d r=>exact hr3.elim
 clear hA0 hV0 hval0
 refine (lawfl_any x u0 u1 W hE hTy hg w0 w1).mono fun e W' ⟨he,bel⟩=>?_
 subst he
 exact⟨_,rfl,_,_,_,[],_,_,hW',trodAll_mk1 (shut_bool Tryz.underlying4 _),(trodAll_cons_mk (Below.trod laidOut (by kernel_rfl) (of_decide_eq_true (by kernel_rfl)) k0 bel lt0) trodAll_mk0),Below.trodVars laidOut bel (by kernel_rfl) hV,Below.frame bel _,fun h=>by cases h⟩
end Go.Proofs.YtmdejbphoafjlaaGreatDoor
