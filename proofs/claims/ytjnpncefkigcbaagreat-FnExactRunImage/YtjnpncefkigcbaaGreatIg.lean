import Derived.Test.YtjnpncefkigcbaaGreatIe
import Derived.Test.YtjnpncefkigcbaaGreatIf
import Derived.Test.YtjnpncefkigcbaaGreatHe
import Derived.ProofKit
import Derived.OpenShut
import Derived.ShutString
import Derived.ChangeOld
import Derived.Below
set_option maxHeartbeats 100000000
set_option maxRecDepth 100000
namespace Go.Proofs.YtjnpncefkigcbaaGreat
open Go.RowKit
theorem slB_len (fr:Int):∀ (l:List Int) (lo:Int),slB fr lo l=true→lo≤fr→(l.length:Int)≤fr - lo
 | [],lo,_,h=>by simp;omega
 | s::r,lo,h,hl=>by
  rw[slB,Bool.and_eq_true,inB_iff]at h;have:=slB_len fr r (s+1) h.2 (by omega);rw[List.length_cons];omega
theorem slB_memG (fr:Int):∀ (l:List Int) (lo:Int),slB fr lo l=true→∀ s∈l,lo≤s∧s≤fr - 1
 | [],lo,_,s,hs=>by cases hs
 | t::r,lo,h,s,hs=>by
  rw[slB,Bool.and_eq_true,inB_iff]at h;rcases List.mem_cons.1 hs with rfl|hs
  ·exact h.1
  ·have:=slB_memG fr r (t+1) h.2 s hs;omega
theorem mpB_mem (fr:Int):∀ (is:List Is) (pc:Nat) (ms:List Ma),mpB fr pc is ms=true→ms.length≤is.length∧∀ m∈ms,(pc:Int)≤m.pc∧m.pc<(pc:Int)+is.length∧slB fr 3 m.slots=true
 | [],pc,ms,h=>by
  rw[mpB]at h;have:ms.length=0:=by simpa using h
  have e:ms=[]:=List.eq_nil_of_length_eq_zero this;subst e;exact⟨Nat.le_refl _,fun m hm=>by cases hm⟩
 | i::r,pc,ms,h=>by
  cases hh:hmB i.op with
  | false =>
   rw[mpB_skip hh]at h;obtain⟨h1,h2⟩:=mpB_mem fr r (pc+1) ms h;refine⟨by rw[List.length_cons];omega,fun m hm=>?_⟩;obtain⟨a,b,c⟩:=h2 m hm;rw[List.length_cons];exact⟨by omega,by omega,c⟩
  | true =>
   cases ms with
   | nil=>exact⟨Nat.zero_le _,fun m hm=>by cases hm⟩
   | cons m t =>
    rw[mpB_some hh,Bool.and_eq_true,Bool.and_eq_true]at h;obtain⟨h1,h2⟩:=mpB_mem fr r (pc+1) t h.2.2;refine⟨by rw[List.length_cons,List.length_cons];omega,fun m' hm=>?_⟩;rw[List.length_cons];rcases List.mem_cons.1 hm with rfl|hm
    ·have e:m'.pc=(pc:Int):=by simpa using h.1
     exact⟨by omega,by omega,h.2.1⟩
    ·obtain⟨a,b,c⟩:=h2 m' hm;exact⟨by omega,by omega,c⟩
theorem insB_w {ns nc fr ni:Int}{i:Is}(h:insB ns nc fr ni i=true):W1 i.op∧W1 i.a∧W1 i.b∧W1 i.c:=by
 unfold insB plB at h;simp only[Bool.and_eq_true,decide_eq_true_eq,inB_iff]at h;unfold W1;omega
theorem cdB_rg {ns nc:Int}{c:Cd}(h:cdB ns nc c=true) (hok:∀ y∈c.ins,y.Ok):c.Rg:=by
 unfold cdB at h;rw[Bool.and_eq_true,Bool.and_eq_true,Bool.and_eq_true,Bool.and_eq_true,inB_iff,inB_iff,inB_iff,List.all_eq_true]at h;obtain⟨h1,h2,h3,h4,h5⟩:=h;obtain⟨m1,m2⟩:=mpB_mem c.frame c.ins 0 c.maps h5;refine⟨by unfold W2;omega,by unfold W2;omega,by unfold W2;omega,by unfold W2;omega,fun i hi=>?_,fun m hm=>?_⟩
 ·obtain⟨a,b,d,e⟩:=insB_w (h4 i hi);exact⟨a,b,d,e,hok i hi⟩
 ·obtain⟨a,b,d⟩:=m2 m hm;have l:=slB_len c.frame m.slots 3 d (by omega);refine⟨by unfold W2;omega,by unfold W2;omega,fun s hs=>?_⟩;have:=slB_memG c.frame m.slots 3 d s hs;unfold W2;omega
theorem imB_rg {x:Im}(h:imB0 x=true) (hok:∀ c∈x.codes,∀ y∈c.ins,y.Ok):x.Rg:=by
 unfold imB0 plB at h;simp only[Bool.and_eq_true,decide_eq_true_eq,List.all_eq_true]at h;obtain⟨h1,h2,h3,h4,h5,h6⟩:=h;refine⟨by unfold W2;omega,by unfold W2;omega,by unfold W2;omega,fun s hs=>?_,fun c hc=>cdB_rg (h6 c hc) (hok c hc)⟩;have:=h5 s hs;unfold W2;omega
theorem lok_b (x:Im) (sv cv:Value) (w:World) (h0:RdL w 1 sv (Bs.dats x.structs)) (h1:RdL w 4 cv (Cd.dats x.codes)) (hok:∀ c∈x.codes,∀ y∈c.ins,y.Ok) {b:Bool}(hb:imB0 x=b) :
  Calls Tryz.prog 44 #[.agg #[sv,cv,.int .i64 x.main]] w fun e w'=>e=.returned (.bool b)∧Later w w':=by
 obtain⟨a,cap,rfl,hl⟩:=Bs.slice h0;obtain⟨a',cap',rfl,hl'⟩:=Cd.slice h1;obtain⟨wa,hwa⟩:=hidq (w.alloc (.cells #[.slice a x.structs.length cap,.slice a' x.codes.length cap',.int .i64 x.main] 37));have la:Later w wa:=by rw[hwa.out];exact later1 _ _
 have hBl:w.heap.size<wa.heap.size:=by rw[hwa.out,World.size_alloc];omega
 have HX:Hid (∀ w',Later wa w'→w'.cell? ⟨w.heap.size,0,none⟩=some (.slice a x.structs.length cap)∧w'.cell? ⟨w.heap.size,1,none⟩=some (.slice a' x.codes.length cap')∧w'.cell? ⟨w.heap.size,2,none⟩=some (.int .i64 x.main)∧w.heap.size<w'.heap.size):=fun w' l=>by
  refine⟨?_,?_,?_,Nat.lt_of_lt_of_le hBl l.size⟩
  ·rw[Below.cell l (p:=⟨w.heap.size,0,none⟩) hBl,hwa.out];simp
  ·rw[Below.cell l (p:=⟨w.heap.size,1,none⟩) hBl,hwa.out];simp
  ·rw[Below.cell l (p:=⟨w.heap.size,2,none⟩) hBl,hwa.out];simp
 unfold imB0 at hb;by_cases s6:x.structs.length≤6
 case neg =>
  rw[decide_eq_false s6,Bool.false_and]at hb;subst hb;have g1:(6:Int)<(x.structs.length:Int):=by omega
  clear h0 h1 HX hok;go_enter Tryz.func44,Tryz.ntmps44;go_wp2_with fail
  go_ret;exact⟨rfl,later1 _ _⟩
 rw[decide_eq_true s6,Bool.true_and]at hb;have g1:¬ (6:Int)<(x.structs.length:Int):=by omega
 have d1:decide ((6:Int)<(x.structs.length:Int))=false:=decide_eq_false g1;by_cases c8:x.codes.length≤8
 case neg =>
  rw[decide_eq_false c8,Bool.false_and]at hb;subst hb;have g2:(8:Int)<(x.codes.length:Int):=by omega
  clear h0 h1 HX hok;go_enter Tryz.func44,Tryz.ntmps44;go_wp2_with fail
  go_ret;exact⟨rfl,later1 _ _⟩
 rw[decide_eq_true c8,Bool.true_and]at hb;have g2:¬ (8:Int)<(x.codes.length:Int):=by omega
 have d2:decide ((8:Int)<(x.codes.length:Int))=false:=decide_eq_false g2
 cases e3:plB x.main (x.codes.length:Int) with
 | false =>
  rw[e3,Bool.false_and]at hb;subst hb;clear h0 h1 HX hok
  generalize x.main=zm at *
  go_enter Tryz.func44,Tryz.ntmps44;go_wp2_with (go_at_call 75;refine (lin_b (by assumption) _).mono ?_;rintro e w1 ⟨rfl,hww⟩;obtain rfl:=hww.symm)
  go_ret;exact⟨rfl,later1 _ _⟩
 | true =>
 rw[e3,Bool.true_and]at hb
 have hmn:0≤x.main∧x.main<(x.codes.length:Int):=by
  unfold plB at e3;rw[Bool.and_eq_true,decide_eq_true_eq,decide_eq_true_eq]at e3;exact e3
 obtain⟨mn,hmv⟩:∃ mn:Nat,x.main=(mn:Int):=⟨x.main.toNat,by omega⟩
 have hml:mn<x.codes.length:=by omega
 have htn:x.main.toNat=mn:=by omega
 rw[htn,List.getElem?_eq_getElem hml]at hb;dsimp only at hb;have ma0:(0:Int)≤(mn:Int):=by omega
 have ma1:(mn:Int)<(x.codes.length:Int):=by omega
 rw[hmv]at hwa HX e3 ⊢;have HAll:Hid (((x.codes[mn].params==0)&&(x.structs.all (fun l=>decide (l.l.length≤5))&&x.codes.all (cdB (x.structs.length:Int) (x.codes.length:Int))))=b):=hb;have H0:Hid (∀ w',Later wa w'→RdL w' 1 (.slice a x.structs.length cap) (Bs.dats x.structs)):=fun w' l=>RdL.later (la.trans l) h0;have H1:Hid (∀ w',Later wa w'→RdL w' 4 (.slice a' x.codes.length cap') (Cd.dats x.codes)):=fun w' l=>RdL.later (la.trans l) h1;have HOk:Hid (∀ c∈x.codes,∀ y∈c.ins,y.Ok):=hok;clear h0 h1 hb hok;go_enter Tryz.func44,Tryz.ntmps44;go_wp2_with (go_at_call 75;refine (lin_b (by assumption) _).mono ?_;rintro e w1 ⟨rfl,hww⟩;obtain rfl:=hww.symm)
 rw[←hwa.out];go_loopw [3] (fun i wr=>∃ (k:Nat),i=.int .i64 (k:Int)∧k≤x.structs.length∧Later wa wr∧∀ y∈x.structs.take k,y.l.length≤5) (fun i _=>x.structs.length - (intOf i).toNat)
 case atStart=>exact⟨0,rfl,Nat.zero_le _,Later.refl _,fun y hy=>by cases hy⟩
 case round =>
  obtain⟨k,rfl,hk,lr,hS⟩:=hrel;obtain⟨t0,t1,t2,t3⟩:=HX.out wr lr;by_cases hlt:k<x.structs.length
  ·obtain⟨g,off,v0,rfl,hg,c0,r0⟩:=Bs.elem (H0.out _ lr) k hlt;rw[Nat.mul_one]at c0;obtain⟨a0,p0,rfl,hl0⟩:=Bo.slice r0;have i1:(k:Int)<(x.structs.length:Int):=by omega
   by_cases h5:x.structs[k].l.length≤5
   ·have g5:¬ (5:Int)<(x.structs[k].l.length:Int):=by omega
    have HT:Hid (∀ y∈x.structs.take (k+1),y.l.length≤5):=fun y hy=>by
     rw[List.take_succ_eq_append_getElem hlt]at hy;rcases List.mem_append.1 hy with hy|hy
     ·exact hS y hy
     ·rw[List.mem_singleton.1 hy];exact h5
    clear hS r0;go_wp2_with fail
    go_roundw
    case rel=>exact⟨k+1,by go_num,by omega,lr,HT.out⟩
    case measure=>simp[intOf];omega
   ·have g5:(5:Int)<(x.structs[k].l.length:Int):=by omega
    have hbf:b=false:=by
     have:x.structs.all (fun l=>decide (l.l.length≤5))=false:=by
      rw[List.all_eq_false];exact⟨_,List.getElem_mem hlt,by simp;omega⟩
     rw[←HAll.out,this,Bool.false_and,Bool.and_false]
    subst hbf;clear hS r0 HAll;go_wp2_with fail
    go_ret;exact⟨rfl,la.trans lr⟩
  ·have i1:¬ (k:Int)<(x.structs.length:Int):=by omega
   have i2:decide ((k:Int)<(x.structs.length:Int))=false:=decide_eq_false i1
   have hall:x.structs.all (fun l=>decide (l.l.length≤5))=true:=by
    rw[List.all_eq_true];intro y hy;exact decide_eq_true (hS y (by rw[List.take_of_length_le (by omega)];exact hy))
   have HA2:Hid (((x.codes[mn].params==0)&&x.codes.all (cdB (x.structs.length:Int) (x.codes.length:Int)))=b):=by unfold Hid;rw[←HAll.out,hall,Bool.true_and]
   clear hall HAll hS hwa;go_wp2_with fail
   obtain⟨wo,hwo⟩:=hidq wr;rw[←hwo.out]at lr ⊢;clear hwo t0 t1 t2 t3;go_loopw [4] (fun i wr=>∃ (k:Nat),i=.int .i64 (k:Int)∧k≤x.codes.length∧Later wa wr∧∀ y∈x.codes.take k,cdB (x.structs.length:Int) (x.codes.length:Int) y=true) (fun i _=>x.codes.length - (intOf i).toNat)
   case atStart=>exact⟨0,rfl,Nat.zero_le _,lr,fun y hy=>by cases hy⟩
   case round =>
    obtain⟨k,rfl,hk,lr2,hS⟩:=hrel;obtain⟨t0,t1,t2,t3⟩:=HX.out wr lr2;by_cases hlt:k<x.codes.length
    ·obtain⟨g,off,v0,v1,eg,hg,c0,c1,c2,c3,r0,r1⟩:=Cd.elem (H1.out wr lr2) k hlt;subst eg;have i1:(k:Int)<(x.codes.length:Int):=by omega
     have HT:Hid (∀ bb,cdB (x.structs.length:Int) (x.codes.length:Int) x.codes[k]=bb→(bb=true→∀ y∈x.codes.take (k+1),cdB (x.structs.length:Int) (x.codes.length:Int) y=true)∧(bb=false→b=false)):=fun bb hbb=>by
      refine⟨fun e y hy=>?_,fun e=>?_⟩
      ·rw[List.take_succ_eq_append_getElem hlt]at hy;rcases List.mem_append.1 hy with hy|hy
       ·exact hS y hy
       ·rw[List.mem_singleton.1 hy,hbb,e]
      ·have:x.codes.all (cdB (x.structs.length:Int) (x.codes.length:Int))=false:=by
        rw[List.all_eq_false];exact⟨_,List.getElem_mem hlt,by rw[hbb,e];exact Bool.false_ne_true⟩
       rw[←HA2.out,this,Bool.and_false]
     have hx:=fun w' (l:Later wr w')=>lcode_b x.structs.length x.codes.length a (some ⟨g,off,none⟩) cap cap' (mn:Int) x.codes[k] v0 v1 w' (RdL.later l r0) (RdL.later l r1) (HOk.out _ (List.getElem_mem hlt)) rfl
     have HS0:Hid (∀ w',Later wr w'→w'.cell? ⟨w.heap.size,0,none⟩=some (.slice a x.structs.length cap)∧w'.cell? ⟨w.heap.size,1,none⟩=some (.slice (some ⟨g,off,none⟩) x.codes.length cap')∧w'.cell? ⟨w.heap.size,2,none⟩=some (.int .i64 (mn:Int))∧w'.cell? ⟨g,off+k*4,none⟩=some (.int .i64 x.codes[k].frame)∧w'.cell? ⟨g,off+k*4+1,none⟩=some (.int .i64 x.codes[k].params)∧w'.cell? ⟨g,off+k*4+2,none⟩=some v0∧w'.cell? ⟨g,off+k*4+3,none⟩=some v1):=fun w' l=>by
      obtain⟨u0,u1,u2,_⟩:=HX.out w' (lr2.trans l);have hC:=fun o=>Below.cell l (p:=⟨g,o,none⟩) hg;rw[hC,hC,hC,hC];exact⟨u0,u1,u2,c0,c1,c2,c3⟩
     obtain⟨ai,ci,rfl,_⟩:=Is.slice r0;obtain⟨am,cm,rfl,_⟩:=Ma.slice r1
     generalize hii:cdB (x.structs.length:Int) (x.codes.length:Int) x.codes[k]=bb at *
     have HT'':Hid ((bb=true→∀ y∈x.codes.take (k+1),cdB (x.structs.length:Int) (x.codes.length:Int) y=true)∧(bb=false→b=false)):=HT.out bb rfl;clear hS HT hii r0 r1;go_wp2_with fail
     go_region_held3 (fun w'=>w'.cell? ⟨w.heap.size,0,none⟩=some (.slice a x.structs.length cap)∧w'.cell? ⟨w.heap.size,1,none⟩=some (.slice (some ⟨g,off,none⟩) x.codes.length cap')∧w'.cell? ⟨w.heap.size,2,none⟩=some (.int .i64 (mn:Int))∧w'.cell? ⟨g,off+k*4,none⟩=some (.int .i64 x.codes[k].frame)∧w'.cell? ⟨g,off+k*4+1,none⟩=some (.int .i64 x.codes[k].params)∧w'.cell? ⟨g,off+k*4+2,none⟩=some (.slice ai x.codes[k].ins.length ci)∧w'.cell? ⟨g,off+k*4+3,none⟩=some (.slice am x.codes[k].maps.length cm)) (first|exact HS0.out _ (Later.drew _)|exact HS0.out _ ((Later.drew _).trans l1)) ((go_at_call 76;refine (hx _ (Later.drew _)).mono ?_;rintro e w1 ⟨rfl,l1⟩))
     all_goals
      cases bb with
      | false =>
       have hbf:=HT''.out.2 rfl;subst hbf;clear hx HA2;go_wp2_with fail
       go_ret;exact⟨rfl,la.trans (lr2.trans ((Later.drew _).trans l1))⟩
      | true =>
       clear hx;go_wp2_with fail
       go_roundw
       case rel=>exact⟨k+1,by go_num,by omega,lr2.trans ((Later.drew _).trans l1),HT''.out.1 (by trivial)⟩
       case measure=>simp[intOf];omega
    ·have i1:¬ (k:Int)<(x.codes.length:Int):=by omega
     have i2:decide ((k:Int)<(x.codes.length:Int))=false:=decide_eq_false i1
     have hall:x.codes.all (cdB (x.structs.length:Int) (x.codes.length:Int))=true:=by
      rw[List.all_eq_true];intro y hy;exact hS y (by rw[List.take_of_length_le (by omega)];exact hy)
     have HD:Hid ((x.codes[mn].params==0)=b):=by unfold Hid;rw[←HA2.out,hall,Bool.and_true]
     obtain⟨gm,om,u0,u1,eg,hgm,m0,m1,m2,m3,_,_⟩:=Cd.elem (H1.out wr lr2) mn hml;subst eg
     generalize x.codes[mn].params=zp at *
     clear hS HA2 hall H0 H1 m0 m2 m3;go_wp2_with fail
     go_ret;exact⟨by rw[←HD.out];first|rfl|simp,la.trans lr2⟩
end Go.Proofs.YtjnpncefkigcbaaGreat
namespace Go.Proofs.YtjnpncefkigcbaaGreat
open Go.RowKit Go.Lib
theorem simok_b (x:Im) (sv cv:Value) (w:World) (h0:RdL w 1 sv (Bs.dats x.structs)) (h1:RdL w 4 cv (Cd.dats x.codes)) (hok:∀ c∈x.codes,∀ y∈c.ins,y.Ok) (hsz:x.sz≤1048576) {b:Bool}(hb:imB x=b) :
  Calls Tryz.prog 20 #[.agg #[sv,cv,.int .i64 x.main]] w fun e w'=>e=.returned (.bool b)∧Later w w':=by
 have HL:=fun w' (l:Later w w') (bb:Bool) (h:imB0 x=bb)=>lok_b x sv cv w' (RdL.later l h0) (RdL.later l h1) hok h;have HB:Hid (∀ w',Later w w'→imB0 x=true→Calls Tryz.prog 45 #[.agg #[sv,cv,.int .i64 x.main]] w' (SayP w' w' (imL x))):=fun w' l h=>lbytes_any x sv cv w' (RdL.later l h0) (RdL.later l h1) (imB_rg h hok) hsz;obtain⟨a0,p0,rfl,_⟩:=Bs.slice h0;obtain⟨a1,p1,rfl,_⟩:=Cd.slice h1;unfold imB at hb;have HLn:Hid ((imL x).length=imSz x):=imL_len x;clear h0 h1 hok
 generalize x.main=zm at *
 cases e0:imB0 x with
 | false =>
  rw[e0,Bool.false_and]at hb;subst hb;have hx:=fun w' (l:Later w w')=>HL w' l false e0;clear HL HB;go_enter Tryz.func20,Tryz.ntmps20;go_wp2_with fail
  refine (hx _ (later1 _ _)).mono ?_;rintro e w1 ⟨rfl,l1⟩;clear hx;go_wp2_with fail
  go_ret;exact⟨rfl,(later1 _ _).trans l1⟩
 | true =>
  rw[e0,Bool.true_and]at hb;have hx:=fun w' (l:Later w w')=>HL w' l true e0;have hy:=fun w' (l:Later w w')=>HB.out w' l e0
  have HD:Hid (∀ n:Nat,n=imSz x→decide ((n:Int)≤200000)=b):=fun n hn=>by
   rw[←hb,hn]
   apply decide_eq_decide.2
   omega
  clear HL HB hb;go_enter Tryz.func20,Tryz.ntmps20;go_wp2_with fail
  refine (hx _ (later1 _ _)).mono ?_;rintro e w1 ⟨rfl,l1⟩;have y0:w1.cell? ⟨w.heap.size,0,none⟩=some (.slice a0 x.structs.length p0):=by rw[Below.cell l1 (p:=⟨w.heap.size,0,none⟩) (by simp)];simp
  have y1:w1.cell? ⟨w.heap.size,1,none⟩=some (.slice a1 x.codes.length p1):=by rw[Below.cell l1 (p:=⟨w.heap.size,1,none⟩) (by simp)];simp
  have y2:w1.cell? ⟨w.heap.size,2,none⟩=some (.int .i64 zm):=by rw[Below.cell l1 (p:=⟨w.heap.size,2,none⟩) (by simp)];simp
  have z1:w.heap.size<w1.heap.size:=by have:=l1.size;simp at this;omega
  have hy1:=hy w1 ((later1 _ _).trans l1);have L1:=(later1 w _).trans l1;clear hx hy l1;go_wp2_with fail
  refine hy1.mono ?_;rintro e w2 ⟨v2,rfl,b2⟩;obtain⟨a2,c2,h2⟩:=b2.shape;obtain⟨N,hN⟩:=hidq (imL x).length;rw[←hN.out]at h2;subst h2;have HD2:Hid (decide ((N:Int)≤200000)=b):=HD.out N (by rw[hN.out,HLn.out]);have l2:=b2.lat;clear hy1 b2 hN HD HLn;go_wp2_with fail
  go_ret;exact⟨by rw[←HD2.out];first|rfl|simp,L1.trans l2⟩
end Go.Proofs.YtjnpncefkigcbaaGreat
namespace Go.Proofs.YtjnpncefkigcbaaGreat
open Go.ChangeShapes Go.WideShapes Go.ChangeAt Go.RowKit
theorem lt_of_cell {w:World}{a:Addr}{v:Value}(h:w.cell? a=some v):a.block<w.heap.size:=by
 rcases Nat.lt_or_ge a.block w.heap.size with l|l
 ·exact l
 ·have:w.heap[a.block]?=none:=Array.getElem?_eq_none l;unfold World.cell? at h;rw[this]at h
  cases h
section
variable {H:Type}{enc:TypeId × Value→H}{W:World}
theorem pick_list {X:Type}{Q:Nat→X→Prop}:∀ n,(∀ i,i<n→∃ x,Q i x)→∃ l:List X,l.length=n∧∀ i (h:i<l.length),Q i l[i]
 | 0,_=>⟨[],rfl,fun i h=>absurd h (Nat.not_lt_zero _)⟩
 | n+1,h=>by
  obtain⟨l,hl,hq⟩:=pick_list n (fun i hi=>h i (by omega));obtain⟨x,hx⟩:=h n (Nat.lt_succ_self n);refine⟨l++[x],by rw[List.length_append,hl];rfl,fun i hi=>?_⟩;rcases Nat.lt_or_ge i l.length with a|a
  ·rw[List.getElem_append_left a];exact hq i a
  ·have:i=l.length:=by rw[List.length_append]at hi;simp at hi;omega
   subst this;rw[List.getElem_append_right (Nat.le_refl _)];simp only[Nat.sub_self,List.getElem_cons_zero];rw[hl];exact hx
theorem cells_get {a:Addr}{k:Nat}{cs:List Value}(h:W.cells? 0 a k=some cs):cs.length=k∧∀ m u,cs[m]?=some u→W.cell? (a.add m)=some u:=by
 unfold World.cells? at h;rw[if_pos (Nat.zero_le _)]at h;have hl:cs.length=k:=by simpa using mapM_some_length h
 refine⟨hl,fun m u hu=>?_⟩
 have hm:m<k:=by
  rw[←hl];rcases Nat.lt_or_ge m cs.length with a|a
  ·exact a
  ·rw[List.getElem?_eq_none a]at hu;cases hu
 have:=mapM_some_get h m m (by simp[hm]);rw[this];exact hu
theorem open_list {T S:TypeId}(hu:Tryz.prog.underlying S=some (.slice T)) {k:Nat}(hk:Tryz.prog.cellsOf T=k) (hk0:0<k) {X:Type}(dat:X→Dat) (Good:X→Prop) {fuel:Nat}{cs:List Value}{y:DataW H × List MemPlace}(h:DataW.trod enc Tryz.prog W 0 (fun _=>true) true fuel S cs=some y)
  (hX:∀ n cs y,n<fuel→cs.length=k→DataW.trod enc Tryz.prog W 0 (fun _=>true) true n T cs=some y→∃ x,Good x∧RdD W (dat x) cs) :
  ∃ (l:List X) (v:Value),cs=[v]∧(∀ i (h:i<l.length),Good l[i])∧RdL W k v (l.map dat):=by
 rcases DataW.trod_slice hu h with ⟨rfl,_⟩|⟨a,len,cap,elems,rest,n,rfl,rfl,_,_,hl,hm,hlen,hel,_,_⟩
 ·exact⟨[],_,rfl,fun i h=>absurd h (Nat.not_lt_zero _),none,0,rfl,⟨Nat.le_refl _,by unfold maxLen;omega⟩,fun j hj=>absurd hj (Nat.not_lt_zero _)⟩
 ·rw[hk]at hel
  have hex:∀ i,i<len→∃ x,Good x∧∃ c,W.cells? 0 (a.add (i*k)) k=some c∧RdD W (dat x) c:=fun i hi=>by
   have h1:=hel i hi;rw[List.getElem?_eq_getElem (by omega)]at h1;obtain⟨c,hc,hd⟩:=Option.bind_eq_some_iff.1 h1;obtain⟨x,hg,hr⟩:=hX n c _ (Nat.lt_succ_self _) (cells_get hc).1 hd;exact⟨x,hg,c,hc,hr⟩
  obtain⟨l,hll,hq⟩:=pick_list len hex;refine⟨l,_,rfl,fun i hi=>(hq i hi).1,some a,cap,by rw[List.length_map,hll],by rw[List.length_map,hll];exact⟨hl,hm⟩,fun j hj=>?_⟩;rw[List.length_map]at hj;obtain⟨_,c0,hc0,_⟩:=hq 0 (by omega);obtain⟨hl0,hg0⟩:=cells_get hc0;have hfirst:=hg0 0 c0[0] (List.getElem?_eq_getElem (by omega))
  have hsp:a.spot=none:=by
   have:=World.cell?_spot hfirst;rw[Nat.zero_mul]at this;simpa[Addr.add] using this
  obtain⟨b,off,sp⟩:=a;simp only at hsp;subst hsp;obtain⟨_,c,hc,hr⟩:=hq j hj;obtain⟨hlc,hgc⟩:=cells_get hc;rw[add_plain]at hgc hfirst;rw[add_plain]at hfirst;refine⟨b,off,c,rfl,lt_of_cell hfirst,hlc,fun m u hu=>?_,by rw[List.getElem_map];exact hr⟩;have:=hgc m u hu
  rwa [add_plain]at this
theorem trod_int {t:TypeId}(hu:Tryz.prog.underlying t=some (.int .i64)) {fuel:Nat}{c:Value}{y:DataW H × List MemPlace}(h:DataW.trod enc Tryz.prog W 0 (fun _=>true) true fuel t [c]=some y):∃ n,c=.int .i64 n∧InR n:=by
 cases fuel with
 | zero=>simp[DataW.trod]at h
 | succ m =>
  unfold DataW.trod at h;rw[hu]at h;split at h <;> simp_all
  rename_i h0
  obtain⟨⟨rfl,hw⟩,_⟩:=h;rw[←h0]at hw;simp only[Lit.wf,IntKind.min,IntKind.max,IntKind.signed,IntKind.bits,Bool.and_eq_true]at hw;unfold InR;simpa using hw
theorem openIn {fuel:Nat}{cs:List Value}{y:DataW H × List MemPlace}(hl:cs.length=1) (h:DataW.trod enc Tryz.prog W 0 (fun _=>true) true fuel 3 cs=some y):∃ x:Int,True∧RdD W (.int x) cs:=by
 match cs,hl with
 | [c],_ =>
  obtain⟨z,rfl,_⟩:=trod_int Tryz.underlying3 h;exact⟨z,trivial,by rw[RdD]⟩
theorem openBo {fuel:Nat}{cs:List Value}{y:DataW H × List MemPlace}(_:cs.length=1) (h:DataW.trod enc Tryz.prog W 0 (fun _=>true) true fuel 4 cs=some y):∃ x:Bool,True∧RdD W (.bool x) cs:=by
 obtain⟨b,rfl,_⟩:=DataW.trod_bool Tryz.underlying4 h;exact⟨b,trivial,by rw[RdD]⟩
theorem In.dats_map (l:List In):In.dats l=l.map Dat.int:=rfl
theorem Bo.dats_map (l:List Bo):Bo.dats l=l.map Dat.bool:=rfl
theorem Is.dats_map (l:List Is):Is.dats l=l.map Is.dat:=rfl
theorem openBs {fuel:Nat}{cs:List Value}{y:DataW H × List MemPlace}(_:cs.length=1) (h:DataW.trod enc Tryz.prog W 0 (fun _=>true) true fuel 54 cs=some y):∃ x:Bs,True∧RdD W x.dat cs:=by
 obtain⟨l0,v0,hq0,g0,b0⟩:=open_list Tryz.underlying54 (show Tryz.prog.cellsOf 4=1 by kernel_rfl) (by decide) Dat.bool (fun _=>True) h (fun n cs y _ hl h=>openBo hl h);subst hq0;rw[←Bo.dats_map]at b0;exact⟨.mk l0,trivial,Bs.unview (x:=.mk l0) b0⟩
theorem Bs.dats_map (l:List Bs):Bs.dats l=l.map Bs.dat:=by
 induction l with
 | nil=>rw[Bs.dats,List.map_nil]
 | cons x r ih=>rw[Bs.dats,ih,List.map_cons]
theorem Ma.dats_map (l:List Ma):Ma.dats l=l.map Ma.dat:=by
 induction l with
 | nil=>rw[Ma.dats,List.map_nil]
 | cons x r ih=>rw[Ma.dats,ih,List.map_cons]
theorem Cd.dats_map (l:List Cd):Cd.dats l=l.map Cd.dat:=by
 induction l with
 | nil=>rw[Cd.dats,List.map_nil]
 | cons x r ih=>rw[Cd.dats,ih,List.map_cons]
theorem openIs {fuel:Nat}{cs:List Value}{y:DataW H × List MemPlace}(_:cs.length=5) (h:DataW.trod enc Tryz.prog W 0 (fun _=>true) true fuel 160 cs=some y):∃ x:Is,x.Ok∧RdD W x.dat cs:=by
 obtain⟨xs,n,rfl,_,hlen,hxl,hf⟩:=DataW.trod_struct Tryz.underlying160 h;have kk:Tryz.prog.cellsOf 160=5:=by kernel_rfl
 rw[kk]at hlen
 match cs,hlen with
 | [c0,c1,c2,c3,c4],_ =>
  have e0:DataW.trod enc Tryz.prog W 0 (fun _=>true) true n 3 [c0]=xs[0]?:=by
   have k:Tryz.prog.cellsOf 3=1:=by kernel_rfl
   have this:DataW.trod enc Tryz.prog W 0 (fun _=>true) true n 3 (([c0,c1,c2,c3,c4].drop 0).take (Tryz.prog.cellsOf 3))=xs[0]?:=hf 0 _ rfl;rw[k]at this;exact this
  rw[List.getElem?_eq_getElem (by rw[hxl];decide)]at e0
  have e1:DataW.trod enc Tryz.prog W 0 (fun _=>true) true n 3 [c1]=xs[1]?:=by
   have k:Tryz.prog.cellsOf 3=1:=by kernel_rfl
   have this:DataW.trod enc Tryz.prog W 0 (fun _=>true) true n 3 (([c0,c1,c2,c3,c4].drop 1).take (Tryz.prog.cellsOf 3))=xs[1]?:=hf 1 _ rfl;rw[k]at this;exact this
  rw[List.getElem?_eq_getElem (by rw[hxl];decide)]at e1
  have e2:DataW.trod enc Tryz.prog W 0 (fun _=>true) true n 3 [c2]=xs[2]?:=by
   have k:Tryz.prog.cellsOf 3=1:=by kernel_rfl
   have this:DataW.trod enc Tryz.prog W 0 (fun _=>true) true n 3 (([c0,c1,c2,c3,c4].drop 2).take (Tryz.prog.cellsOf 3))=xs[2]?:=hf 2 _ rfl;rw[k]at this;exact this
  rw[List.getElem?_eq_getElem (by rw[hxl];decide)]at e2
  have e3:DataW.trod enc Tryz.prog W 0 (fun _=>true) true n 3 [c3]=xs[3]?:=by
   have k:Tryz.prog.cellsOf 3=1:=by kernel_rfl
   have this:DataW.trod enc Tryz.prog W 0 (fun _=>true) true n 3 (([c0,c1,c2,c3,c4].drop 3).take (Tryz.prog.cellsOf 3))=xs[3]?:=hf 3 _ rfl;rw[k]at this;exact this
  rw[List.getElem?_eq_getElem (by rw[hxl];decide)]at e3
  have e4:DataW.trod enc Tryz.prog W 0 (fun _=>true) true n 3 [c4]=xs[4]?:=by
   have k:Tryz.prog.cellsOf 3=1:=by kernel_rfl
   have this:DataW.trod enc Tryz.prog W 0 (fun _=>true) true n 3 (([c0,c1,c2,c3,c4].drop 4).take (Tryz.prog.cellsOf 3))=xs[4]?:=hf 4 _ rfl;rw[k]at this;exact this
  rw[List.getElem?_eq_getElem (by rw[hxl];decide)]at e4;obtain⟨z0,rfl,g0⟩:=trod_int Tryz.underlying3 e0;obtain⟨z1,rfl,g1⟩:=trod_int Tryz.underlying3 e1;obtain⟨z2,rfl,g2⟩:=trod_int Tryz.underlying3 e2;obtain⟨z3,rfl,g3⟩:=trod_int Tryz.underlying3 e3;obtain⟨z4,rfl,g4⟩:=trod_int Tryz.underlying3 e4;exact⟨.mk z0 z1 z2 z3 z4,g4,Is.unview (p:=.mk z0 z1 z2 z3 z4)⟩
theorem openMa {fuel:Nat}{cs:List Value}{y:DataW H × List MemPlace}(h:DataW.trod enc Tryz.prog W 0 (fun _=>true) true fuel 154 cs=some y):∃ x:Ma,True∧RdD W x.dat cs:=by
 obtain⟨xs,n,rfl,_,hlen,hxl,hf⟩:=DataW.trod_struct Tryz.underlying154 h;have kk:Tryz.prog.cellsOf 154=2:=by kernel_rfl
 rw[kk]at hlen
 match cs,hlen with
 | [c0,c1],_ =>
  have e0:DataW.trod enc Tryz.prog W 0 (fun _=>true) true n 3 [c0]=xs[0]?:=by
   have k:Tryz.prog.cellsOf 3=1:=by kernel_rfl
   have this:DataW.trod enc Tryz.prog W 0 (fun _=>true) true n 3 (([c0,c1].drop 0).take (Tryz.prog.cellsOf 3))=xs[0]?:=hf 0 _ rfl;rw[k]at this;exact this
  rw[List.getElem?_eq_getElem (by rw[hxl];decide)]at e0
  have e1:DataW.trod enc Tryz.prog W 0 (fun _=>true) true n 26 [c1]=xs[1]?:=by
   have k:Tryz.prog.cellsOf 26=1:=by kernel_rfl
   have this:DataW.trod enc Tryz.prog W 0 (fun _=>true) true n 26 (([c0,c1].drop 1).take (Tryz.prog.cellsOf 26))=xs[1]?:=hf 1 _ rfl;rw[k]at this;exact this
  rw[List.getElem?_eq_getElem (by rw[hxl];decide)]at e1;obtain⟨z0,rfl,g0⟩:=trod_int Tryz.underlying3 e0;obtain⟨l1,v1,hq1,g1,b1⟩:=open_list Tryz.underlying26 (show Tryz.prog.cellsOf 3=1 by kernel_rfl) (by decide) Dat.int (fun _=>True) e1 (fun n cs y _ hl h=>openIn hl h);obtain rfl:c1=v1:=by simpa using hq1
  rw[←In.dats_map]at b1;exact⟨.mk z0 l1,trivial,Ma.unview (x:=.mk z0 l1) b1⟩
theorem openCd {fuel:Nat}{cs:List Value}{y:DataW H × List MemPlace}(h:DataW.trod enc Tryz.prog W 0 (fun _=>true) true fuel 92 cs=some y):∃ x:Cd,(∀ y∈x.ins,y.Ok)∧RdD W x.dat cs:=by
 obtain⟨xs,n,rfl,_,hlen,hxl,hf⟩:=DataW.trod_struct Tryz.underlying92 h;have kk:Tryz.prog.cellsOf 92=4:=by kernel_rfl
 rw[kk]at hlen
 match cs,hlen with
 | [c0,c1,c2,c3],_ =>
  have e0:DataW.trod enc Tryz.prog W 0 (fun _=>true) true n 3 [c0]=xs[0]?:=by
   have k:Tryz.prog.cellsOf 3=1:=by kernel_rfl
   have this:DataW.trod enc Tryz.prog W 0 (fun _=>true) true n 3 (([c0,c1,c2,c3].drop 0).take (Tryz.prog.cellsOf 3))=xs[0]?:=hf 0 _ rfl;rw[k]at this;exact this
  rw[List.getElem?_eq_getElem (by rw[hxl];decide)]at e0
  have e1:DataW.trod enc Tryz.prog W 0 (fun _=>true) true n 3 [c1]=xs[1]?:=by
   have k:Tryz.prog.cellsOf 3=1:=by kernel_rfl
   have this:DataW.trod enc Tryz.prog W 0 (fun _=>true) true n 3 (([c0,c1,c2,c3].drop 1).take (Tryz.prog.cellsOf 3))=xs[1]?:=hf 1 _ rfl;rw[k]at this;exact this
  rw[List.getElem?_eq_getElem (by rw[hxl];decide)]at e1
  have e2:DataW.trod enc Tryz.prog W 0 (fun _=>true) true n 89 [c2]=xs[2]?:=by
   have k:Tryz.prog.cellsOf 89=1:=by kernel_rfl
   have this:DataW.trod enc Tryz.prog W 0 (fun _=>true) true n 89 (([c0,c1,c2,c3].drop 2).take (Tryz.prog.cellsOf 89))=xs[2]?:=hf 2 _ rfl;rw[k]at this;exact this
  rw[List.getElem?_eq_getElem (by rw[hxl];decide)]at e2
  have e3:DataW.trod enc Tryz.prog W 0 (fun _=>true) true n 90 [c3]=xs[3]?:=by
   have k:Tryz.prog.cellsOf 90=1:=by kernel_rfl
   have this:DataW.trod enc Tryz.prog W 0 (fun _=>true) true n 90 (([c0,c1,c2,c3].drop 3).take (Tryz.prog.cellsOf 90))=xs[3]?:=hf 3 _ rfl;rw[k]at this;exact this
  rw[List.getElem?_eq_getElem (by rw[hxl];decide)]at e3;obtain⟨z0,rfl,g0⟩:=trod_int Tryz.underlying3 e0;obtain⟨z1,rfl,g1⟩:=trod_int Tryz.underlying3 e1;obtain⟨l2,v2,hq2,g2,b2⟩:=open_list Tryz.underlying89 (show Tryz.prog.cellsOf 160=5 by kernel_rfl) (by decide) Is.dat (Is.Ok) e2 (fun n cs y _ hl h=>openIs hl h);obtain rfl:c2=v2:=by simpa using hq2
  rw[←Is.dats_map]at b2;obtain⟨l3,v3,hq3,g3,b3⟩:=open_list Tryz.underlying90 (show Tryz.prog.cellsOf 154=2 by kernel_rfl) (by decide) Ma.dat (fun _=>True) e3 (fun n cs y _ hl h=>openMa h);obtain rfl:c3=v3:=by simpa using hq3
  rw[←Ma.dats_map]at b3;exact⟨.mk z0 z1 l2 l3,fun y hy=>by obtain⟨i,hi,rfl⟩:=List.mem_iff_getElem.1 hy;exact g2 i hi,Cd.unview (x:=.mk z0 z1 l2 l3) b2 b3⟩
theorem openIm {fuel:Nat}{cs:List Value}{y:DataW H × List MemPlace}(h:DataW.trod enc Tryz.prog W 0 (fun _=>true) true fuel 25 cs=some y):∃ (x:Im) (v0 v1:Value),cs=[v0,v1,.int .i64 x.main]∧RdL W 1 v0 (Bs.dats x.structs)∧RdL W 4 v1 (Cd.dats x.codes)∧∀ c∈x.codes,∀ y∈c.ins,y.Ok:=by
 obtain⟨xs,n,rfl,_,hlen,hxl,hf⟩:=DataW.trod_struct Tryz.underlying25 h;have kk:Tryz.prog.cellsOf 25=3:=by kernel_rfl
 rw[kk]at hlen
 match cs,hlen with
 | [c0,c1,c2],_ =>
  have e0:DataW.trod enc Tryz.prog W 0 (fun _=>true) true n 22 [c0]=xs[0]?:=by
   have k:Tryz.prog.cellsOf 22=1:=by kernel_rfl
   have this:DataW.trod enc Tryz.prog W 0 (fun _=>true) true n 22 (([c0,c1,c2].drop 0).take (Tryz.prog.cellsOf 22))=xs[0]?:=hf 0 _ rfl;rw[k]at this;exact this
  rw[List.getElem?_eq_getElem (by rw[hxl];decide)]at e0
  have e1:DataW.trod enc Tryz.prog W 0 (fun _=>true) true n 23 [c1]=xs[1]?:=by
   have k:Tryz.prog.cellsOf 23=1:=by kernel_rfl
   have this:DataW.trod enc Tryz.prog W 0 (fun _=>true) true n 23 (([c0,c1,c2].drop 1).take (Tryz.prog.cellsOf 23))=xs[1]?:=hf 1 _ rfl;rw[k]at this;exact this
  rw[List.getElem?_eq_getElem (by rw[hxl];decide)]at e1
  have e2:DataW.trod enc Tryz.prog W 0 (fun _=>true) true n 3 [c2]=xs[2]?:=by
   have k:Tryz.prog.cellsOf 3=1:=by kernel_rfl
   have this:DataW.trod enc Tryz.prog W 0 (fun _=>true) true n 3 (([c0,c1,c2].drop 2).take (Tryz.prog.cellsOf 3))=xs[2]?:=hf 2 _ rfl;rw[k]at this;exact this
  rw[List.getElem?_eq_getElem (by rw[hxl];decide)]at e2;obtain⟨l0,v0,hq0,g0,b0⟩:=open_list Tryz.underlying22 (show Tryz.prog.cellsOf 54=1 by kernel_rfl) (by decide) Bs.dat (fun _=>True) e0 (fun n cs y _ hl h=>openBs hl h);obtain rfl:c0=v0:=by simpa using hq0
  rw[←Bs.dats_map]at b0;obtain⟨l1,v1,hq1,g1,b1⟩:=open_list Tryz.underlying23 (show Tryz.prog.cellsOf 92=4 by kernel_rfl) (by decide) Cd.dat (fun c=>∀ y∈c.ins,y.Ok) e1 (fun n cs y _ hl h=>openCd h);obtain rfl:c1=v1:=by simpa using hq1
  rw[←Cd.dats_map]at b1;obtain⟨z2,rfl,g2⟩:=trod_int Tryz.underlying3 e2;exact⟨.mk l0 l1 z2,_,_,rfl,b0,b1,fun c hc=>by obtain⟨i,hi,rfl⟩:=List.mem_iff_getElem.1 hc;exact g1 i hi⟩
end
end Go.Proofs.YtjnpncefkigcbaaGreat
namespace Go.Proofs.YtjnpncefkigcbaaGreat
open Go.ChangeShapes Go.WideShapes Go.ChangeAt Go.RowKit Go.Lib
section
variable {H:Type}{enc:TypeId × Value→H}{W:World}
theorem openSe {fuel:Nat}{cs:List Value}{y:DataW H × List MemPlace}(h:DataW.trod enc Tryz.prog W 0 (fun _=>true) true fuel 28 cs=some y):∃ (x:Se) (v0 v1:Value),cs=[.int .i64 x.half,.int .i64 x.stack,v0,.int .i64 x.fuel,v1]∧RdL W 1 v0 (In.dats x.input)∧RdL W 1 v1 (In.dats x.oracle):=by
 obtain⟨xs,n,rfl,_,hlen,hxl,hf⟩:=DataW.trod_struct Tryz.underlying28 h;have kk:Tryz.prog.cellsOf 28=5:=by kernel_rfl
 rw[kk]at hlen
 match cs,hlen with
 | [c0,c1,c2,c3,c4],_ =>
  have e0:DataW.trod enc Tryz.prog W 0 (fun _=>true) true n 3 [c0]=xs[0]?:=by
   have k:Tryz.prog.cellsOf 3=1:=by kernel_rfl
   have this:DataW.trod enc Tryz.prog W 0 (fun _=>true) true n 3 (([c0,c1,c2,c3,c4].drop 0).take (Tryz.prog.cellsOf 3))=xs[0]?:=hf 0 _ rfl;rw[k]at this;exact this
  rw[List.getElem?_eq_getElem (by rw[hxl];decide)]at e0
  have e1:DataW.trod enc Tryz.prog W 0 (fun _=>true) true n 3 [c1]=xs[1]?:=by
   have k:Tryz.prog.cellsOf 3=1:=by kernel_rfl
   have this:DataW.trod enc Tryz.prog W 0 (fun _=>true) true n 3 (([c0,c1,c2,c3,c4].drop 1).take (Tryz.prog.cellsOf 3))=xs[1]?:=hf 1 _ rfl;rw[k]at this;exact this
  rw[List.getElem?_eq_getElem (by rw[hxl];decide)]at e1
  have e2:DataW.trod enc Tryz.prog W 0 (fun _=>true) true n 26 [c2]=xs[2]?:=by
   have k:Tryz.prog.cellsOf 26=1:=by kernel_rfl
   have this:DataW.trod enc Tryz.prog W 0 (fun _=>true) true n 26 (([c0,c1,c2,c3,c4].drop 2).take (Tryz.prog.cellsOf 26))=xs[2]?:=hf 2 _ rfl;rw[k]at this;exact this
  rw[List.getElem?_eq_getElem (by rw[hxl];decide)]at e2
  have e3:DataW.trod enc Tryz.prog W 0 (fun _=>true) true n 3 [c3]=xs[3]?:=by
   have k:Tryz.prog.cellsOf 3=1:=by kernel_rfl
   have this:DataW.trod enc Tryz.prog W 0 (fun _=>true) true n 3 (([c0,c1,c2,c3,c4].drop 3).take (Tryz.prog.cellsOf 3))=xs[3]?:=hf 3 _ rfl;rw[k]at this;exact this
  rw[List.getElem?_eq_getElem (by rw[hxl];decide)]at e3
  have e4:DataW.trod enc Tryz.prog W 0 (fun _=>true) true n 26 [c4]=xs[4]?:=by
   have k:Tryz.prog.cellsOf 26=1:=by kernel_rfl
   have this:DataW.trod enc Tryz.prog W 0 (fun _=>true) true n 26 (([c0,c1,c2,c3,c4].drop 4).take (Tryz.prog.cellsOf 26))=xs[4]?:=hf 4 _ rfl;rw[k]at this;exact this
  rw[List.getElem?_eq_getElem (by rw[hxl];decide)]at e4;obtain⟨z0,rfl,g0⟩:=trod_int Tryz.underlying3 e0;obtain⟨z1,rfl,g1⟩:=trod_int Tryz.underlying3 e1;obtain⟨l2,v2,hq2,g2,b2⟩:=open_list Tryz.underlying26 (show Tryz.prog.cellsOf 3=1 by kernel_rfl) (by decide) Dat.int (fun _=>True) e2 (fun n cs y _ hl h=>openIn hl h);obtain rfl:c2=v2:=by simpa using hq2
  rw[←In.dats_map]at b2;obtain⟨z3,rfl,g3⟩:=trod_int Tryz.underlying3 e3;obtain⟨l4,v4,hq4,g4,b4⟩:=open_list Tryz.underlying26 (show Tryz.prog.cellsOf 3=1 by kernel_rfl) (by decide) Dat.int (fun _=>True) e4 (fun n cs y _ hl h=>openIn hl h);obtain rfl:c4=v4:=by simpa using hq4
  rw[←In.dats_map]at b4;exact⟨.mk z0 z1 l2 z3 l4,_,_,rfl,b2,b4⟩
end
end Go.Proofs.YtjnpncefkigcbaaGreat
