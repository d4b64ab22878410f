import Derived.Test.YtgaddpkkjebekaaGreatDoorZ10
import Derived.Test.YtgaddpkkjebekaaGreatDoorZ11
set_option maxHeartbeats 100000000
set_option maxRecDepth 100000
namespace Go.Proofs.YtgaddpkkjebekaaGreatDoor
open Go.RowKit Go.Maps
theorem vX (v:Value) (w:World):(Instr.typeAssert (.iface (stT 4) v) 105 153 true).run Tryz.prog w=.ok (.tuple #[v,.bool true]) w:=by kernel_rfl
theorem mX (k:Int) (hk:k≠4) (v:Value) (w:World):(Instr.typeAssert (.iface (stT k) v) 105 153 true).run Tryz.prog w=.ok (.tuple #[.agg #[.pointer none],.bool false]) w:=by
 unfold stT;rcases jd k with (rfl|rfl|rfl|rfl|rfl|rfl|rfl|rfl)|⟨n0,n1,n2,n3,n4,n5,n6,n7⟩
 ·kernel_rfl
 ·kernel_rfl
 ·kernel_rfl
 ·kernel_rfl
 ·exact absurd rfl hk
 ·kernel_rfl
 ·kernel_rfl
 ·kernel_rfl
 ·rw[if_neg n0,if_neg n1,if_neg n2,if_neg n3,if_neg n4,if_neg n5,if_neg n6,if_neg n7]
  kernel_rfl
theorem xN (v:Value) (w:World):(Instr.typeAssert (.iface (stT 6) v) 105 155 true).run Tryz.prog w=.ok (.tuple #[v,.bool true]) w:=by kernel_rfl
theorem pK (k:Int) (hk:k≠6) (v:Value) (w:World):(Instr.typeAssert (.iface (stT k) v) 105 155 true).run Tryz.prog w=.ok (.tuple #[.agg #[.pointer none],.bool false]) w:=by
 unfold stT;rcases jd k with (rfl|rfl|rfl|rfl|rfl|rfl|rfl|rfl)|⟨n0,n1,n2,n3,n4,n5,n6,n7⟩
 ·kernel_rfl
 ·kernel_rfl
 ·kernel_rfl
 ·kernel_rfl
 ·kernel_rfl
 ·kernel_rfl
 ·exact absurd rfl hk
 ·kernel_rfl
 ·rw[if_neg n0,if_neg n1,if_neg n2,if_neg n3,if_neg n4,if_neg n5,if_neg n6,if_neg n7]
  kernel_rfl
theorem BI (v:Value) (w:World):(Instr.typeAssert (.iface (stT 2) v) 105 151 true).run Tryz.prog w=.ok (.tuple #[v,.bool true]) w:=by kernel_rfl
theorem DI (k:Int) (hk:k≠2) (v:Value) (w:World):(Instr.typeAssert (.iface (stT k) v) 105 151 true).run Tryz.prog w=.ok (.tuple #[.agg #[.pointer none],.bool false]) w:=by
 unfold stT;rcases jd k with (rfl|rfl|rfl|rfl|rfl|rfl|rfl|rfl)|⟨n0,n1,n2,n3,n4,n5,n6,n7⟩
 ·kernel_rfl
 ·kernel_rfl
 ·exact absurd rfl hk
 ·kernel_rfl
 ·kernel_rfl
 ·kernel_rfl
 ·kernel_rfl
 ·kernel_rfl
 ·rw[if_neg n0,if_neg n1,if_neg n2,if_neg n3,if_neg n4,if_neg n5,if_neg n6,if_neg n7]
  kernel_rfl
theorem F9 (k:Int) (bo el:List St) (g o:Nat) (v2 v3:Value) (w:World) (hgs:g<w.heap.size) (c6:w.cell? ⟨g,o+6,none⟩=some v2) (c7:w.cell? ⟨g,o+7,none⟩=some v3) (hv2:∃ a n c,v2=.slice a n c) (hv3:∃ a n c,v3=.slice a n c)
  (hB:∀ w',Later w w'->Calls Tryz.prog 29 #[v2] w' (fO (St.ends bo) w')) (hC:∀ w',Later w w'->Calls Tryz.prog 29 #[v3] w' (fO (St.ends el) w')) :
  Calls Tryz.prog 60 #[stV k g o] w (fO ((k==4)||((k==6)||((k==2)&&St.ends bo&&St.ends el))) w):=by
 unfold stV;obtain⟨z2,n2,d2,rfl⟩:=hv2;obtain⟨z3,n3,d3,rfl⟩:=hv3
 have HA:Hid (∀ w' b,Later w w'->((k==4)||((k==6)||((k==2)&&St.ends bo&&St.ends el)))=b->fO ((k==4)||((k==6)||((k==2)&&St.ends bo&&St.ends el))) w (.returned (.bool b)) w'):=fun w' b l h=>⟨by rw[h],l⟩
 have HE:Hid (((k==4)||((k==6)||((k==2)&&St.ends bo&&St.ends el)))=((k==4)||((k==6)||((k==2)&&St.ends bo&&St.ends el)))):=rfl
 generalize hQ:fO ((k==4)||((k==6)||((k==2)&&St.ends bo&&St.ends el))) w=Q at *
 clear hQ
 generalize St.ends bo=eb at *
 generalize St.ends el=ee at *
 by_cases k4:k=4
 ·subst k4;have HZ:=HA.out w true (Later.refl _) rfl;have t1:=vX (.agg #[.pointer (some ⟨g,o,none⟩)]);have t2:=pK 4 (by decide) (.agg #[.pointer (some ⟨g,o,none⟩)])
  generalize stT 4=T at *
  clear HA hB hC HE;go_enter Tryz.func60,Tryz.ntmps60;go_wp2_with fail
  exact HZ
 ·by_cases k6:k=6
  ·subst k6;have HZ:=HA.out w true (Later.refl _) rfl;have t1:=mX 6 (by decide) (.agg #[.pointer (some ⟨g,o,none⟩)]);have t2:=xN (.agg #[.pointer (some ⟨g,o,none⟩)])
   generalize stT 6=T at *
   clear HA hB hC HE;go_enter Tryz.func60,Tryz.ntmps60;go_wp2_with fail
   exact HZ
  ·have t1:=mX k k4 (.agg #[.pointer (some ⟨g,o,none⟩)]);have t2:=pK k k6 (.agg #[.pointer (some ⟨g,o,none⟩)]);by_cases k2:k=2
   ·subst k2;have t3:=BI (.agg #[.pointer (some ⟨g,o,none⟩)])
    generalize stT 2=T at *
    obtain⟨w1,hw1⟩:=hidx (w.alloc (.cells #[.pointer (some ⟨g,o,none⟩)] 151));have L1:Later w w1:=by rw[hw1.out];exact ae _ _
    have hb1:Bxx w1 w.heap.size [.pointer (some ⟨g,o,none⟩)]:=by rw[hw1.out];exact Bxx.new _ _ _
    have hB1:=hB w1 L1;have HE2:Hid (((2:Int)==4||((2:Int)==6||(2:Int)==2&&eb&&ee))=(eb&&ee)):=rfl;clear hB k4 k6;go_enter Tryz.func60,Tryz.ntmps60;go_wp2_with fail
    rw[<-hw1.out];refine hB1.mono ?_;rintro e w2 ⟨rfl,l2⟩;have L2:=L1.trans l2;have y0:=((hb1.later l2).cell 0 _ rfl).1;have yl:=(hb1.later l2).lt;have x7:w2.cell? ⟨g,o+7,none⟩=some (.slice z3 n3 d3):=by rw[Below.cell L2 (p:=⟨g,o+7,none⟩) hgs];exact c7
    have hC1:=hC w2 L2;clear hB1 hC
    cases eb with
    | false =>
     have HZ:=HA.out w2 false L2 rfl;clear HA hC1;go_wp2_with fail
     exact HZ
    | true =>
     go_wp2_with fail
     refine hC1.mono ?_;rintro e w3 ⟨rfl,l3⟩;have HZ:=HA.out w3 ee (L2.trans l3) (by rw[HE2.out];rfl);clear HA hC1
     cases ee
     all_goals
      go_wp2_with fail
      exact HZ
   ·have t3:=DI k k2 (.agg #[.pointer (some ⟨g,o,none⟩)]);have HZ:=HA.out w false (Later.refl _) (by rw[neb k4,neb k6,neb k2];rfl)
    generalize stT k=T at *
    clear HA hB hC HE k4 k6 k2;go_enter Tryz.func60,Tryz.ntmps60;go_wp2_with fail
    exact HZ
theorem vw:∀ (n:Nat) (l:List St) (v:Value) (w:World),St.szs l<=n->RdL w 8 v (St.ah l)->Calls Tryz.prog 29 #[v] w (fO (St.ends l) w):=by
 intro n
 induction n using Nat.strongRecOn with
 | _ n IH =>
 intro l v w hz h;obtain⟨a,cap,rfl,hlen⟩:=St.slice h
 have HA:Hid (∀ w' b,Later w w'->St.ends l=b->fO (St.ends l) w (.returned (.bool b)) w'):=fun w' b l h=>⟨by rw[h],l⟩
 generalize hQ:fO (St.ends l) w=Q at *
 clear hQ;rcases Nat.eq_zero_or_pos l.length with hl|hpos
 ·obtain rfl:=List.eq_nil_of_length_eq_zero hl;have HZ:=HA.out w false (Later.refl _) (by rw[St.ends]);clear HA IH h;go_enter Tryz.func29,Tryz.ntmps29;go_wp2_with fail
  exact HZ
 ·obtain⟨J,hJ⟩:∃ J,J+1=l.length:=⟨l.length - 1,by omega⟩
  have hlt:J<l.length:=by omega
  obtain⟨g,off,k0,k1,k2,k3,rfl,hgs,c0,c1,c2,c3,c4,c5,c6,c7,r0,r1,r2,r3⟩:=St.elem h J hlt;have hszj:=St.dW l J hlt;have hkle:=St.oP l[J];have HE:Hid (St.ends l=((l[J].kind==4)||((l[J].kind==6)||((l[J].kind==2)&&St.ends l[J].body&&St.ends l[J].els)))):=by unfold Hid;rw[St.Dv l J hlt hJ,St.Ky]
  have hP:=wY l[J].kind g (off+J*8) w c0;have hN:=fun w' (q:Later w w')=>F9 l[J].kind l[J].body l[J].els g (off+J*8) k2 k3 w' (Nat.lt_of_lt_of_le hgs q.size) (by rw[Below.cell q (p:=⟨g,off+J*8+6,none⟩) hgs];exact c6) (by rw[Below.cell q (p:=⟨g,off+J*8+7,none⟩) hgs];exact c7) (by obtain⟨a,c,e,_⟩:=St.slice r2;exact⟨a,_,c,e⟩) (by obtain⟨a,c,e,_⟩:=St.slice r3;exact⟨a,_,c,e⟩) (fun w'' q'=>IH (St.szs l[J].body) (by omega) l[J].body k2 w'' (Nat.le_refl _) (RdL.later (q.trans q') r2)) (fun w'' q'=>IH (St.szs l[J].els) (by omega) l[J].els k3 w'' (Nat.le_refl _) (RdL.later (q.trans q') r3));rw[<-HE.out]at hN;have i1:(l.length:Int) - 1=(J:Int):=by omega
  have i2:(J:Int)<(l.length:Int):=by omega
  have i3:(0:Int)<(l.length:Int):=by omega
  clear h IH r0 r1 r2 r3 hszj hkle hJ hz c0 c1 c2 c3 c4 c5 c6 c7 HE
  generalize stV l[J].kind g (off+J*8)=pv at *
  generalize St.ends l=eb at *
  go_enter Tryz.func29,Tryz.ntmps29;go_wp2_with fail
  refine hP.mono ?_;rintro e w1 ⟨rfl,l1⟩;have hN1:=hN w1 l1;clear hP hN;go_wp2_with fail
  refine hN1.mono ?_;rintro e w2 ⟨rfl,l2⟩;have HZ:=HA.out w2 eb (l1.trans l2) rfl;clear HA hN1
  cases eb
  all_goals
   go_wp2_with fail
   exact HZ
theorem Jb:∀ (n:Nat) (l:List St) (v:Value) (w:World),St.szs l<=n->RdL w 8 v (St.ah l)->Calls Tryz.prog 28 #[v] w (fO (St.iL l) w):=by
 intro n
 induction n using Nat.strongRecOn with
 | _ n IH =>
 intro l v w hz h;obtain⟨a,cap,rfl,hlen⟩:=St.slice h
 have HA:Hid (∀ w' b,Later w w'->St.iL l=b->fO (St.iL l) w (.returned (.bool b)) w'):=fun w' b l h=>⟨by rw[h],l⟩
 generalize hQ:fO (St.iL l) w=Q at *
 clear hQ;go_enter Tryz.func28,Tryz.ntmps28;go_wp2_with fail
 go_loopw [9] (fun i wr=>∃ (j:Nat),i=.int .i64 (j:Int)/\j<=l.length/\Later w wr/\Hid (∀ i (hi:i<l.length),i<j->l[i].pX=true/\(i+1<l.length->l[i].yu=false))) (fun i _=>l.length - (intOf i).toNat)
 case atStart=>exact⟨0,rfl,Nat.zero_le _,Later.refl _,fun i _ hj=>absurd hj (Nat.not_lt_zero _)⟩
 case round =>
  obtain⟨j,rfl,hj,lr,HJ⟩:=hrel;by_cases hlt:j<l.length
  ·obtain⟨g,off,k0,k1,k2,k3,rfl,hgs,c0,c1,c2,c3,c4,c5,c6,c7,r0,r1,r2,r3⟩:=St.elem (RdL.later lr h) j hlt;have hszj:=St.dW l j hlt;have hkle:=St.oP l[j];have i1:(j:Int)<(l.length:Int):=by omega
   have hB:=fun w' (q:Later wr w')=>IH (St.szs l[j].body) (by omega) l[j].body k2 w' (Nat.le_refl _) (RdL.later q r2);have hC:=fun w' (q:Later wr w')=>IH (St.szs l[j].els) (by omega) l[j].els k3 w' (Nat.le_refl _) (RdL.later q r3);have hP:=wY l[j].kind g (off+j*8) wr c0;have hN:=fun w' (q:Later wr w')=>F9 l[j].kind l[j].body l[j].els g (off+j*8) k2 k3 w' (Nat.lt_of_lt_of_le hgs q.size) (by rw[Below.cell q (p:=⟨g,off+j*8+6,none⟩) hgs];exact c6) (by rw[Below.cell q (p:=⟨g,off+j*8+7,none⟩) hgs];exact c7) (by obtain⟨a,c,e,_⟩:=St.slice r2;exact⟨a,_,c,e⟩) (by obtain⟨a,c,e,_⟩:=St.slice r3;exact⟨a,_,c,e⟩) (fun w'' q'=>vw _ l[j].body k2 w'' (Nat.le_refl _) (RdL.later (q.trans q') r2)) (fun w'' q'=>vw _ l[j].els k3 w'' (Nat.le_refl _) (RdL.later (q.trans q') r3));rw[<-St.Ky]at hN;have HNo:Hid ((l[j].pX=true->j+1<l.length/\l[j].yu=true)->St.iL l=false):=St.Qa hlt
   have HGo:Hid (l[j].pX=true->(j+1<l.length->l[j].yu=false)->∀ i (hi:i<l.length),i<j+1->l[i].pX=true/\(i+1<l.length->l[i].yu=false)):=fun h1 h2 i hi hij=>by
    rcases Nat.lt_or_ge i j with q|q
    ·exact HJ.out i hi q
    ·have:i=j:=by omega
     subst this;exact⟨h1,h2⟩
   have H1:Hid (l[j].pX=(St.iL l[j].body&&St.iL l[j].els)):=St.Qb _;obtain⟨z2,d2,rfl,_⟩:=St.slice r2;obtain⟨z3,d3,rfl,_⟩:=St.slice r3;have hK:=fun w' (q:Later wr w')=>PS g (off+j*8) z2 z3 l[j].body.length d2 l[j].els.length d3 w' (by rw[Below.cell q (p:=⟨g,off+j*8+6,none⟩) hgs];exact c6) (by rw[Below.cell q (p:=⟨g,off+j*8+7,none⟩) hgs];exact c7);have hmb:=(zL l[j].kind g (off+j*8)).1.blocks;unfold stV at hP hN;have HB:Hid _:=hB;have HC:Hid _:=hC;have HK:Hid _:=hK;clear IH HJ r0 r1 r2 r3 c0 c1 c2 c3 c4 c5 c6 c7 hszj hkle h hz hB hC hK
   generalize stT l[j].kind=T at *
   generalize l[j].pX=fl at *
   generalize l[j].yu=en at *
   generalize St.iL l[j].body=fb at *
   generalize St.iL l[j].els=fe at *
   generalize l[j].body.length=n2 at *
   generalize l[j].els.length=n3 at *
   go_wp2_with fail
   refine hP.mono ?_;rintro e w1 ⟨rfl,l1⟩;have hN1:=hN w1 l1;clear hP hN;go_wp2_with fail
   refine hN1.mono ?_;rintro e w2 ⟨rfl,l2⟩;have L2:=l1.trans l2;clear hN1;by_cases hout:en=true/\j+1<l.length
   ·obtain⟨rfl,hm⟩:=hout;have i5:(j:Int)+1<(l.length:Int):=by omega
    have HZ:=HA.out w2 false (lr.trans L2) (HNo.out (fun _=>⟨hm,rfl⟩));clear HA HNo HGo H1 HB HC HK hmb;go_wp2_with fail
    exact HZ
   ·have HG2:Hid (fl=true->∀ i (hi:i<l.length),i<j+1->l[i].pX=true/\(i+1<l.length->l[i].yu=false)):=fun q=>HGo.out q (fun q'=>by cases en;rfl;exact absurd ⟨rfl,q'⟩ hout);have hK2:=HK.out w2 L2
    have HM:Hid (∀ (G:Prop),(en=false->G)->(en=true->(¬ (j:Int)+1<(l.length:Int)/\decide ((j:Int)+1<(l.length:Int))=false)->G)->G):=fun G g1 g2=>by
     cases en
     ·exact g1 rfl
     ·have hm:¬ (j:Int)+1<(l.length:Int):=fun q=>hout ⟨rfl,by omega⟩;exact g2 rfl ⟨hm,decide_eq_false hm⟩
    clear HK HGo hout;refine HM.out _ ?_ ?_
    all_goals
     clear HM;rintro rfl
     try rintro ⟨i5,i6⟩
     go_wp2_with fail
     refine hK2.mono ?_;rintro e w4 ⟨bv,rfl,⟨B,rfl,hBg,hBl,d0,d1⟩,l4⟩;have L4:=L2.trans l4
     have HD:Hid (∀ W,Later w4 W->W.cell? ⟨B,0,none⟩=some (.slice z2 n2 d2)/\W.cell? ⟨B,1,none⟩=some (.slice z3 n3 d3)/\B<W.heap.size):=fun W q=>⟨by rw[Below.cell q (p:=⟨B,0,none⟩) hBl];exact d0,by rw[Below.cell q (p:=⟨B,1,none⟩) hBl];exact d1,Nat.lt_of_lt_of_le hBl q.size⟩
     clear hK2 d0 d1 hBg hBl;go_wp2_with fail
     go_loopw [28] (fun i W=>Later w4 W/\(i=.int .i64 0\/(i=.int .i64 1/\Hid (fb=true))\/(i=.int .i64 2/\Hid (fb=true)/\Hid (fe=true)))) (fun i _=>2 - (intOf i).toNat)
     case atStart=>exact⟨Later.refl _,.inl rfl⟩
     case round =>
      obtain⟨lw,hcase⟩:=hrel;obtain⟨d0,d1,hBl⟩:=HD.out _ lw;have LW:=L4.trans lw;rcases hcase with rfl|⟨rfl,hf1⟩|⟨rfl,hf1,hf2⟩
      ·have hC:=HB.out _ LW;clear HB HC;go_wp2_with fail
       refine hC.mono ?_;rintro e w5 ⟨rfl,l5⟩;have L5:=LW.trans l5;have l45:=lw.trans l5;clear hC d0 d1
       cases fb with
       | false =>
        have HZ:=HA.out w5 false (lr.trans L5) (HNo.out (by rw[H1.out];intro q;cases q));clear HA HNo HG2 H1 HD;go_wp2_with fail
        exact HZ
       | true =>
        go_wp2_with fail
        go_roundw
        case rel=>exact⟨l45,.inr (.inl ⟨by go_num,by unfold Hid;simp⟩)⟩
        case measure=>simp[intOf]
      ·have hC:=HC.out _ LW;clear HB HC;go_wp2_with fail
       refine hC.mono ?_;rintro e w5 ⟨rfl,l5⟩;have L5:=LW.trans l5;have l45:=lw.trans l5;clear hC d0 d1
       cases fe with
       | false =>
        have HZ:=HA.out w5 false (lr.trans L5) (HNo.out (by rw[H1.out,hf1.out];intro q;cases q));clear HA HNo HG2 H1 HD;go_wp2_with fail
        exact HZ
       | true =>
        go_wp2_with fail
        go_roundw
        case rel=>exact⟨l45,.inr (.inr ⟨by go_num,hf1,by unfold Hid;simp⟩)⟩
        case measure=>simp[intOf]
      ·have HZ:Hid _:=HG2.out (by rw[H1.out,hf1.out,hf2.out];rfl);have LZ:=lr.trans LW;clear HB HC d0 d1 HNo HG2 H1 HD;go_wp2_with fail
       go_roundw
       case rel=>exact⟨j+1,by go_num,by omega,LZ,HZ⟩
       case measure=>simp[intOf];omega
  ·have i1:¬ (j:Int)<(l.length:Int):=by omega
   have i2:decide ((j:Int)<(l.length:Int))=false:=decide_eq_false i1;have HZ:=HA.out wr true lr ((St.yf l).2 fun i hi=>HJ.out i hi (by omega));clear HA HJ IH h;go_wp2_with fail
   exact HZ
abbrev TyP:=Int × Int
def kTy (ks:List Ex) (j:Nat):TyP:=match ks[j]? with|some x=>(x.tk,x.tn)|none=>(0,0)
def lH (t:TyP):Option TyP:=if t.1=4 then some (1,0) else if t.1=5 then some (2,0) else if t.1=6 then some (3,t.2) else none
def rW (op:Int) (k l:TyP):Option TyP :=
 if k=l then (if k.1=1 then some (1,0) else if k.1=2 then (if op=5\/op=6 then some (1,0) else if op=4 then none else some (2,0)) else if k.1=3 then (if op=6 then some (1,0) else none) else none) else none
def gK:List Pa->List Ex->Bool
 | [],[]=>true
 | p::r,x::s=>(p.tk==x.tk)&&(p.tn==x.tn)&&gK r s
 | _,_=>false
theorem oH:∀ (ps:List Pa) (ks:List Ex),gK ps ks=true↔ps.length=ks.length/\∀ j (h:j<ps.length) (h':j<ks.length),ps[j].tk=ks[j].tk/\ps[j].tn=ks[j].tn
 | [],[]=>by rw[gK];exact⟨fun _=>⟨rfl,fun j h=>absurd h (Nat.not_lt_zero _)⟩,fun _=>rfl⟩
 | [],x::s=>by simp[gK]
 | p::r,[]=>by simp[gK]
 | p::r,x::s=>by
  rw[gK,Bool.and_eq_true,Bool.and_eq_true,beq_iff_eq,beq_iff_eq,oH r s];constructor
  ·rintro ⟨⟨h1,h2⟩,h3,h4⟩;refine⟨by simp[h3],fun j h h'=>?_⟩
   match j with
   | 0=>exact⟨h1,h2⟩
   | j+1=>exact h4 j (Nat.lt_of_succ_lt_succ h) (Nat.lt_of_succ_lt_succ h')
  ·rintro ⟨h1,h2⟩;exact⟨h2 0 (Nat.succ_pos _) (Nat.succ_pos _),by simpa using h1,fun j h h'=>h2 (j+1) (Nat.succ_lt_succ h) (Nat.succ_lt_succ h')⟩
theorem KU {ps:List Pa}{ks:List Ex}{j:Nat}(h:j<ps.length) (h':j<ks.length) (hb:¬ (ps[j].tk=ks[j].tk/\ps[j].tn=ks[j].tn)):gK ps ks=false:=by
 rw[<-Bool.not_eq_true,oH];exact fun q=>hb (q.2 j h h')
theorem Dl (k n:Int) (w:World) (hty:TyE w):Calls Tryz.prog 144 #[.agg #[.int .i64 k,.int .i64 n]] w fun e w'=>∃ a b ok,e=.returned (.tuple #[.agg #[.int .i64 a,.int .i64 b],.bool ok])/\lH (k,n)=(if ok then some (a,b) else none)/\Later w w':=by
 have hb:=dQ;have i0:=hty.i0;have i1:=hty.i1;have f0:=hty.f0;have f1:=hty.f1;have hi:=aK hty.i0;have hf:=aK hty.f0;clear hty
 have HP:Hid (∀ a b ok w',lH (k,n)=(if ok then some (a,b) else none)->Later w w'->(fun e w'=>∃ a b ok,e=Ending.returned (.tuple #[.agg #[.int .i64 a,.int .i64 b],.bool ok])/\lH (k,n)=(if ok then some (a,b) else none)/\Later w w') (.returned (.tuple #[.agg #[.int .i64 a,.int .i64 b],.bool ok])) w'):=fun a b ok w' h l=>⟨a,b,ok,rfl,h,l⟩
 generalize hQ:(fun e w'=>∃ a b ok,e=Ending.returned (.tuple #[.agg #[.int .i64 a,.int .i64 b],.bool ok])/\lH (k,n)=(if ok then some (a,b) else none)/\Later w w')=Q at *
 clear hQ;by_cases k4:k=4
 ·subst k4;have HZ:=HP.out 1 0 true ((w.alloc (.cells #[.int .i64 4,.int .i64 n] 52)).alloc (.cells #[.int .i64 1,.int .i64 0] 52)) (by rfl) (bF _ _ _);clear HP;go_enter Tryz.func144,Tryz.ntmps144;go_wp2_with fail
  exact bodyPost_ret (v:=.tuple #[.agg #[.int .i64 1,.int .i64 0],.bool true]) (by simp[results,Tryz.results144,go_sem]) rfl HZ
 ·by_cases k5:k=5
  ·subst k5;have HZ:=HP.out 2 0 true ((w.alloc (.cells #[.int .i64 5,.int .i64 n] 52)).alloc (.cells #[.int .i64 2,.int .i64 0] 52)) (by rfl) (bF _ _ _);clear HP;go_enter Tryz.func144,Tryz.ntmps144;go_wp2_with fail
   exact bodyPost_ret (v:=.tuple #[.agg #[.int .i64 2,.int .i64 0],.bool true]) (by simp[results,Tryz.results144,go_sem]) rfl HZ
  ·by_cases k6:k=6
   ·subst k6;have HZ:=HP.out 3 n true ((w.alloc (.cells #[.int .i64 6,.int .i64 n] 52)).alloc (.cells #[.int .i64 3,.int .i64 n] 52)) (by rfl) (bF _ _ _);clear HP;go_enter Tryz.func144,Tryz.ntmps144;go_wp2_with fail
    exact bodyPost_ret (v:=.tuple #[.agg #[.int .i64 3,.int .i64 n],.bool true]) (by simp[results,Tryz.results144,go_sem]) rfl HZ
   ·have HZ:=HP.out 0 0 false ((w.alloc (.cells #[.int .i64 k,.int .i64 n] 52)).alloc (.cells #[.int .i64 0,.int .i64 0] 52)) (by unfold lH;rw[if_neg k4,if_neg k5,if_neg k6];rfl) (bF _ _ _);have n4:=neb k4;have n5:=neb k5;have n6:=neb k6;clear HP;go_enter Tryz.func144,Tryz.ntmps144;go_wp2_with fail
    exact bodyPost_ret (v:=.tuple #[.agg #[.int .i64 0,.int .i64 0],.bool false]) (by simp[results,Tryz.results144,go_sem]) rfl HZ
theorem iQ (T:TypeId) (pv:Value) (g o at':Nat) (ks:List Ex) (u:Value) (w:World) (hV:ig T pv ⟨g,o,none⟩ 197 196) (hc:w.cell? ⟨g,o+5,none⟩=some u) (h:RdL w 6 u (Ex.ah ks)) (ha:at'<=1) :
  Calls Tryz.prog 115 #[.iface T pv,.int .i64 (at':Int)] w fun e w'=>e=.returned (.agg #[.int .i64 (kTy ks at').1,.int .i64 (kTy ks at').2])/\Later w w':=by
 have hmk:=hV.kids;have hb:=dQ;obtain⟨a,cap,rfl,hlen⟩:=Ex.slice h;clear hV
 have HP:Hid (∀ w',Later w w'->(fun e w'=>e=Ending.returned (.agg #[.int .i64 (kTy ks at').1,.int .i64 (kTy ks at').2])/\Later w w') (.returned (.agg #[.int .i64 (kTy ks at').1,.int .i64 (kTy ks at').2])) w'):=fun w' l=>⟨rfl,l⟩
 generalize hQ:(fun e w'=>e=Ending.returned (.agg #[.int .i64 (kTy ks at').1,.int .i64 (kTy ks at').2])/\Later w w')=Q at *
 clear hQ;obtain⟨w1,hw1⟩:=hidx (w.alloc (.cells #[.int .i64 0,.int .i64 0] 52));have L1:Later w w1:=by rw[hw1.out];exact ae _ _
 have hb1:Bxx w1 w.heap.size [.int .i64 0,.int .i64 0]:=by rw[hw1.out];exact Bxx.new _ _ _
 have hk1:=TW g o a ks.length cap w1 (by rw[Below.cell L1 (p:=⟨g,o+5,none⟩) (aK hc)];exact hc);clear hc;go_enter Tryz.func115,Tryz.ntmps115;go_wp2_with fail
 rw[<-hw1.out];refine hk1.mono ?_;rintro e w2 ⟨rfl,l2⟩;have hb2:=hb1.later l2;have r0:=(hb2.cell 0 _ rfl).1;have r1:=(hb2.cell 1 _ rfl).1;have r0f:=(hb2.cell 0 _ rfl).2;have r1f:=(hb2.cell 1 _ rfl).2;have rl:=hb2.lt;have L2:=L1.trans l2;by_cases hlt:at'<ks.length
 ·obtain⟨g',off',m0,m1,rfl,hgs',t0,t1,t2,t3,t4,t5,s0,s1⟩:=Ex.elem h at' hlt;have i1:¬ (ks.length:Int)<=(at':Int):=by omega
  have i2:decide ((ks.length:Int)<=(at':Int))=false:=decide_eq_false i1;have i3:(at':Int)<(ks.length:Int):=by omega
  have i0:(0:Int)<=(at':Int):=by omega
  have hne:g'≠w.heap.size:=by omega
  have x2:w2.cell? ⟨g',off'+at'*6+2,none⟩=some (.int .i64 ks[at'].tk):=by rw[Below.cell L2 (p:=⟨g',off'+at'*6+2,none⟩) hgs'];exact t2
  have x3:w2.cell? ⟨g',off'+at'*6+3,none⟩=some (.int .i64 ks[at'].tn):=by rw[Below.cell L2 (p:=⟨g',off'+at'*6+3,none⟩) hgs'];exact t3
  have e1:kTy ks at'=(ks[at'].tk,ks[at'].tn):=by unfold kTy;rw[List.getElem?_eq_getElem hlt]
  have HZ:=HP.out ((w2.setCell ⟨w.heap.size,0,none⟩ (.int .i64 ks[at'].tk)).setCell ⟨w.heap.size,1,none⟩ (.int .i64 ks[at'].tn)) (Later.setAt (Later.setAt L2 (Nat.le_refl _) 0 _) (Nat.le_refl _) 1 _);rw[e1]at HZ;clear HP s0 s1 h hk1 e1 t0 t1 t2 t3 t4 t5;go_wp2_with fail
  exact bodyPost_ret (v:=.agg #[.int .i64 ks[at'].tk,.int .i64 ks[at'].tn]) (by simp[results,Tryz.results115,go_sem,World.cell?_setCell_same',r0,r1]) rfl HZ
 ·have i1:(ks.length:Int)<=(at':Int):=by omega
  have e1:kTy ks at'=(0,0):=by unfold kTy;rw[List.getElem?_eq_none (by omega)]
  have HZ:=HP.out ((w2.setCell ⟨w.heap.size,0,none⟩ (.int .i64 0)).setCell ⟨w.heap.size,1,none⟩ (.int .i64 0)) (Later.setAt (Later.setAt L2 (Nat.le_refl _) 0 _) (Nat.le_refl _) 1 _);rw[e1]at HZ;clear HP h hk1 e1;go_wp2_with fail
  exact bodyPost_ret (v:=.agg #[.int .i64 0,.int .i64 0]) (by simp[results,Tryz.results115,go_sem,World.cell?_setCell_same',r0,r1]) rfl HZ
theorem kD (T:TypeId) (pv:Value) (g o at':Nat) (ks:List Ex) (u:Value) (w:World) (hV:ig T pv ⟨g,o,none⟩ 195 194) (hc:w.cell? ⟨g,o+5,none⟩=some u) (h:RdL w 6 u (Ex.ah ks)) (ha:at'<=1) :
  Calls Tryz.prog 115 #[.iface T pv,.int .i64 (at':Int)] w fun e w'=>e=.returned (.agg #[.int .i64 (kTy ks at').1,.int .i64 (kTy ks at').2])/\Later w w':=by
 have hmk:=hV.kids;have hb:=dQ;obtain⟨a,cap,rfl,hlen⟩:=Ex.slice h;clear hV
 have HP:Hid (∀ w',Later w w'->(fun e w'=>e=Ending.returned (.agg #[.int .i64 (kTy ks at').1,.int .i64 (kTy ks at').2])/\Later w w') (.returned (.agg #[.int .i64 (kTy ks at').1,.int .i64 (kTy ks at').2])) w'):=fun w' l=>⟨rfl,l⟩
 generalize hQ:(fun e w'=>e=Ending.returned (.agg #[.int .i64 (kTy ks at').1,.int .i64 (kTy ks at').2])/\Later w w')=Q at *
 clear hQ;obtain⟨w1,hw1⟩:=hidx (w.alloc (.cells #[.int .i64 0,.int .i64 0] 52));have L1:Later w w1:=by rw[hw1.out];exact ae _ _
 have hb1:Bxx w1 w.heap.size [.int .i64 0,.int .i64 0]:=by rw[hw1.out];exact Bxx.new _ _ _
 have hk1:=PI g o a ks.length cap w1 (by rw[Below.cell L1 (p:=⟨g,o+5,none⟩) (aK hc)];exact hc);clear hc;go_enter Tryz.func115,Tryz.ntmps115;go_wp2_with fail
 rw[<-hw1.out];refine hk1.mono ?_;rintro e w2 ⟨rfl,l2⟩;have hb2:=hb1.later l2;have r0:=(hb2.cell 0 _ rfl).1;have r1:=(hb2.cell 1 _ rfl).1;have r0f:=(hb2.cell 0 _ rfl).2;have r1f:=(hb2.cell 1 _ rfl).2;have rl:=hb2.lt;have L2:=L1.trans l2;by_cases hlt:at'<ks.length
 ·obtain⟨g',off',m0,m1,rfl,hgs',t0,t1,t2,t3,t4,t5,s0,s1⟩:=Ex.elem h at' hlt;have i1:¬ (ks.length:Int)<=(at':Int):=by omega
  have i2:decide ((ks.length:Int)<=(at':Int))=false:=decide_eq_false i1;have i3:(at':Int)<(ks.length:Int):=by omega
  have i0:(0:Int)<=(at':Int):=by omega
  have hne:g'≠w.heap.size:=by omega
  have x2:w2.cell? ⟨g',off'+at'*6+2,none⟩=some (.int .i64 ks[at'].tk):=by rw[Below.cell L2 (p:=⟨g',off'+at'*6+2,none⟩) hgs'];exact t2
  have x3:w2.cell? ⟨g',off'+at'*6+3,none⟩=some (.int .i64 ks[at'].tn):=by rw[Below.cell L2 (p:=⟨g',off'+at'*6+3,none⟩) hgs'];exact t3
  have e1:kTy ks at'=(ks[at'].tk,ks[at'].tn):=by unfold kTy;rw[List.getElem?_eq_getElem hlt]
  have HZ:=HP.out ((w2.setCell ⟨w.heap.size,0,none⟩ (.int .i64 ks[at'].tk)).setCell ⟨w.heap.size,1,none⟩ (.int .i64 ks[at'].tn)) (Later.setAt (Later.setAt L2 (Nat.le_refl _) 0 _) (Nat.le_refl _) 1 _);rw[e1]at HZ;clear HP s0 s1 h hk1 e1 t0 t1 t2 t3 t4 t5;go_wp2_with fail
  exact bodyPost_ret (v:=.agg #[.int .i64 ks[at'].tk,.int .i64 ks[at'].tn]) (by simp[results,Tryz.results115,go_sem,World.cell?_setCell_same',r0,r1]) rfl HZ
 ·have i1:(ks.length:Int)<=(at':Int):=by omega
  have e1:kTy ks at'=(0,0):=by unfold kTy;rw[List.getElem?_eq_none (by omega)]
  have HZ:=HP.out ((w2.setCell ⟨w.heap.size,0,none⟩ (.int .i64 0)).setCell ⟨w.heap.size,1,none⟩ (.int .i64 0)) (Later.setAt (Later.setAt L2 (Nat.le_refl _) 0 _) (Nat.le_refl _) 1 _);rw[e1]at HZ;clear HP h hk1 e1;go_wp2_with fail
  exact bodyPost_ret (v:=.agg #[.int .i64 0,.int .i64 0]) (by simp[results,Tryz.results115,go_sem,World.cell?_setCell_same',r0,r1]) rfl HZ
theorem qA (w:World) (a b c d:Int):(binOp .eql 52 (.agg #[.int .i64 a,.int .i64 b]) (.agg #[.int .i64 c,.int .i64 d])).run Tryz.prog w=.ok (.bool ((a==c)&&(b==d))) w:=by
 go_simp;by_cases h1:a=c <;> by_cases h2:b=d <;> simp[h1,h2]
theorem neTy (w:World) (a b c d:Int):(binOp .neq 52 (.agg #[.int .i64 a,.int .i64 b]) (.agg #[.int .i64 c,.int .i64 d])).run Tryz.prog w=.ok (.bool !((a==c)&&(b==d))) w:=by
 go_simp;by_cases h1:a=c <;> by_cases h2:b=d <;> simp[h1,h2]
theorem IA (n0:Value) (pk pn k n tk tn:Int) (u0 u1:Value) (w:World) (h0:∃ a m c,n0=.slice a m c) (h1:∃ a m c,u0=.slice a m c) (h2:∃ a m c,u1=.slice a m c) :
  Calls Tryz.prog 142 #[.agg #[n0,.int .i64 pk,.int .i64 pn],.agg #[.int .i64 k,.int .i64 n,.int .i64 tk,.int .i64 tn,u0,u1]] w fun e w'=>e=.returned (.bool ((pk==tk)&&(pn==tn)))/\Later w w':=by
 obtain⟨a,m,c,rfl⟩:=h0;obtain⟨a1,m1,c1,rfl⟩:=h1;obtain⟨a2,m2,c2,rfl⟩:=h2;have qT:=qA;go_enter Tryz.func142,Tryz.ntmps142;go_wp2_with fail
 go_ret;exact⟨rfl,bF _ _ _⟩
theorem PN (ps:List Pa) (ks:List Ex) (v u:Value) (w:World) (h:RdL w 3 v (Pa.ah ps)) (hk:RdL w 6 u (Ex.ah ks)) :
  Calls Tryz.prog 141 #[v,u,.func (.func 142) #[] #[]] w (fO (gK ps ks) w):=by
 obtain⟨a,cap,rfl,hlen⟩:=Pa.slice h;obtain⟨b,cap',rfl,hlen'⟩:=Ex.slice hk
 have HA:Hid (∀ w' b,Later w w'->gK ps ks=b->fO (gK ps ks) w (.returned (.bool b)) w'):=fun w' b l h=>⟨by rw[h],l⟩
 generalize hQ:fO (gK ps ks) w=Q at *
 clear hQ;by_cases hll:ps.length=ks.length
 ·have i0:((ps.length:Int)==(ks.length:Int))=true:=by rw[hll];simp
  have Hll:Hid _:=hll;clear hll;go_enter Tryz.func141,Tryz.ntmps141;go_wp2_with fail
  simp only[bne,i0,Bool.not_true];clear i0;go_loopw [17] (fun i wr=>∃ (j:Nat),i=.int .i64 (j:Int)/\j<=ps.length/\Later w wr/\Hid (∀ i (hi:i<ps.length) (hi':i<ks.length),i<j->ps[i].tk=ks[i].tk/\ps[i].tn=ks[i].tn)) (fun i _=>ps.length - (intOf i).toNat)
  case atStart=>exact⟨0,rfl,Nat.zero_le _,Later.refl _,fun i _ _ hj=>absurd hj (Nat.not_lt_zero _)⟩
  case round =>
   obtain⟨j,rfl,hj,lr,HJ⟩:=hrel;by_cases hlt:j<ps.length
   ·have hlt':j<ks.length:=by have:=Hll.out;omega
    obtain⟨g,off,e0,rfl,hgs,d0,d1,d2,s0⟩:=Pa.elem (RdL.later lr h) j hlt;obtain⟨g',off',m0,m1,rfl,hgs',t0,t1,t2,t3,t4,t5,s1,s2⟩:=Ex.elem (RdL.later lr hk) j hlt';have i1:(j:Int)<(ps.length:Int):=by omega
    have i2:(j:Int)<(ks.length:Int):=by omega
    have hT:=fun w'=>IA e0 ps[j].tk ps[j].tn ks[j].kind ks[j].n ks[j].tk ks[j].tn m0 m1 w' (by obtain⟨a,c,e,_⟩:=s0.slice;exact⟨a,_,c,e⟩) (by obtain⟨a,c,e,_⟩:=s1.slice;exact⟨a,_,c,e⟩) (by obtain⟨a,c,e,_⟩:=Ex.slice s2;exact⟨a,_,c,e⟩);have HNo:Hid (¬ (ps[j].tk=ks[j].tk/\ps[j].tn=ks[j].tn)->gK ps ks=false):=KU hlt hlt'
    have HGo:Hid ((ps[j].tk=ks[j].tk/\ps[j].tn=ks[j].tn)->∀ i (hi:i<ps.length) (hi':i<ks.length),i<j+1->ps[i].tk=ks[i].tk/\ps[i].tn=ks[i].tn):=fun h1 i hi hi' hij=>by
     rcases Nat.lt_or_ge i j with q|q
     ·exact HJ.out i hi hi' q
     ·have:i=j:=by omega
      subst this;exact h1
    obtain⟨z0,q0,rfl,_⟩:=s0.slice;obtain⟨z1,q1,rfl,_⟩:=s1.slice;obtain⟨z2,q2,rfl,_⟩:=Ex.slice s2;have L2:Later w ((wr.alloc (.cells #[.slice z0 ps[j].name.length q0,.int .i64 ps[j].tk,.int .i64 ps[j].tn] 75)).alloc (.cells #[.int .i64 ks[j].kind,.int .i64 ks[j].n,.int .i64 ks[j].tk,.int .i64 ks[j].tn,.slice z1 ks[j].name.length q1,.slice z2 ks[j].kids.length q2] 148)):=lr.trans (bF _ _ _);have hT2:=hT ((wr.alloc (.cells #[.slice z0 ps[j].name.length q0,.int .i64 ps[j].tk,.int .i64 ps[j].tn] 75)).alloc (.cells #[.int .i64 ks[j].kind,.int .i64 ks[j].n,.int .i64 ks[j].tk,.int .i64 ks[j].tn,.slice z1 ks[j].name.length q1,.slice z2 ks[j].kids.length q2] 148));have HB:Hid (((ps[j].tk==ks[j].tk)&&(ps[j].tn==ks[j].tn))=decide (ps[j].tk=ks[j].tk/\ps[j].tn=ks[j].tn)):=by unfold Hid;rw[Bool.eq_iff_iff];simp
    rw[HB.out]at hT2;clear HJ s0 s1 s2 h hk hT HB
    generalize ps[j].tk=p_tk at *
    generalize ps[j].tn=p_tn at *
    generalize ks[j].tk=k_tk at *
    generalize ks[j].tn=k_tn at *
    go_wp2_with fail
    refine hT2.mono ?_;rintro e w3 ⟨rfl,l3⟩;have L3:=L2.trans l3;clear hT2 L2 l3 d0 d1 d2 t0 t1 t2 t3 t4 t5;by_cases he:p_tk=k_tk/\p_tn=k_tn
    ·have HZ:Hid _:=HGo.out he;rw[decide_eq_true he];clear HNo HGo he;go_wp2_with fail
     go_roundw
     case rel=>exact⟨j+1,by go_num,by omega,L3,HZ⟩
     case measure=>simp[intOf];omega
    ·have HZ:=HA.out w3 false L3 (HNo.out he);rw[decide_eq_false he];clear HA HNo HGo he;go_wp2_with fail
     exact HZ
   ·have i1:¬ (j:Int)<(ps.length:Int):=by omega
    have i2:decide ((j:Int)<(ps.length:Int))=false:=decide_eq_false i1;have HZ:=HA.out wr true lr ((oH ps ks).2 ⟨Hll.out,fun i hi hi'=>HJ.out i hi hi' (by omega)⟩);clear HA HJ h hk;go_wp2_with fail
    exact HZ
 ·have i0:¬ (ps.length:Int)=(ks.length:Int):=by omega
  have i1:=neb i0;have HZ:=HA.out w false (Later.refl _) (by rw[<-Bool.not_eq_true,oH];exact fun q=>hll q.1);clear HA h hk hll;go_enter Tryz.func141,Tryz.ntmps141;go_wp2_with fail
  exact HZ
def VF (op k1 k2 l1 l2:Int) (w:World) (e:Ending) (w':World):Prop:=∃ a b ok,e=.returned (.tuple #[.agg #[.int .i64 a,.int .i64 b],.bool ok])/\rW op (k1,k2) (l1,l2)=(if ok then some (a,b) else none)/\Later w w'
theorem PT (op k1 k2 l1 l2:Int) (w:World) (hty:TyE w):Calls Tryz.prog 145 #[.int .i64 op,.agg #[.int .i64 k1,.int .i64 k2],.agg #[.int .i64 l1,.int .i64 l2]] w (VF op k1 k2 l1 l2 w):=by
 have hb:=dQ;have qT:=neTy;have i0:=hty.i0;have i1:=hty.i1;have f0:=hty.f0;have f1:=hty.f1;have hi:=aK hty.i0;have hf:=aK hty.f0;clear hty
 have HP:Hid (∀ a b ok w',rW op (k1,k2) (l1,l2)=(if ok then some (a,b) else none)->Later w w'->VF op k1 k2 l1 l2 w (.returned (.tuple #[.agg #[.int .i64 a,.int .i64 b],.bool ok])) w'):=fun a b ok w' h l=>⟨a,b,ok,rfl,h,l⟩
 generalize hQ:VF op k1 k2 l1 l2 w=Q at *
 clear hQ;by_cases he:k1=l1/\k2=l2
 ·obtain⟨rfl,rfl⟩:=he;have q0:(k1==k1)=true:=by simp
  have q1:(k2==k2)=true:=by simp
  by_cases c1:k1=1
  ·subst c1;have HZ:=HP.out 1 0 true (((w.alloc (.cells #[.int .i64 1,.int .i64 k2] 52)).alloc (.cells #[.int .i64 1,.int .i64 k2] 52)).alloc (.cells #[.int .i64 1,.int .i64 0] 52)) (by unfold rW;simp) ((bF _ _ _).trans (ae _ _));clear HP;go_enter Tryz.func145,Tryz.ntmps145;go_wp2_with fail
   all_goals exact bodyPost_ret (v:=.tuple #[.agg #[.int .i64 1,.int .i64 0],.bool true]) (by simp[results,Tryz.results145,go_sem] <;> assumption) rfl HZ
  ·by_cases c2:k1=2
   ·subst c2;by_cases c5:op=5
    ·subst c5;have HZ:=HP.out 1 0 true (((w.alloc (.cells #[.int .i64 2,.int .i64 k2] 52)).alloc (.cells #[.int .i64 2,.int .i64 k2] 52)).alloc (.cells #[.int .i64 1,.int .i64 0] 52)) (by unfold rW;simp) ((bF _ _ _).trans (ae _ _));clear HP;go_enter Tryz.func145,Tryz.ntmps145;go_wp2_with fail
     all_goals exact bodyPost_ret (v:=.tuple #[.agg #[.int .i64 1,.int .i64 0],.bool true]) (by simp[results,Tryz.results145,go_sem] <;> assumption) rfl HZ
    ·have n5:=neb c5;by_cases c6:op=6
     ·subst c6;have HZ:=HP.out 1 0 true (((w.alloc (.cells #[.int .i64 2,.int .i64 k2] 52)).alloc (.cells #[.int .i64 2,.int .i64 k2] 52)).alloc (.cells #[.int .i64 1,.int .i64 0] 52)) (by unfold rW;simp) ((bF _ _ _).trans (ae _ _));clear HP;go_enter Tryz.func145,Tryz.ntmps145;go_wp2_with fail
      all_goals exact bodyPost_ret (v:=.tuple #[.agg #[.int .i64 1,.int .i64 0],.bool true]) (by simp[results,Tryz.results145,go_sem] <;> assumption) rfl HZ
     ·have n6:=neb c6;by_cases c4:op=4
      ·subst c4;have HZ:=HP.out 2 0 false (((w.alloc (.cells #[.int .i64 2,.int .i64 k2] 52)).alloc (.cells #[.int .i64 2,.int .i64 k2] 52)).alloc (.cells #[.int .i64 2,.int .i64 0] 52)) (by unfold rW;simp) ((bF _ _ _).trans (ae _ _));clear HP;go_enter Tryz.func145,Tryz.ntmps145;go_wp2_with fail
       all_goals exact bodyPost_ret (v:=.tuple #[.agg #[.int .i64 2,.int .i64 0],.bool false]) (by simp[results,Tryz.results145,go_sem] <;> assumption) rfl HZ
      ·have n4:=neb c4;have HZ:=HP.out 2 0 true (((w.alloc (.cells #[.int .i64 2,.int .i64 k2] 52)).alloc (.cells #[.int .i64 2,.int .i64 k2] 52)).alloc (.cells #[.int .i64 2,.int .i64 0] 52)) (by unfold rW;simp[c4,c5,c6]) ((bF _ _ _).trans (ae _ _));clear HP;go_enter Tryz.func145,Tryz.ntmps145;go_wp2_with fail
       all_goals exact bodyPost_ret (v:=.tuple #[.agg #[.int .i64 2,.int .i64 0],.bool true]) (by simp[results,Tryz.results145,go_sem] <;> assumption) rfl HZ
   ·by_cases c3:k1=3
    ·subst c3;by_cases c6:op=6
     ·subst c6;have HZ:=HP.out 1 0 true (((w.alloc (.cells #[.int .i64 3,.int .i64 k2] 52)).alloc (.cells #[.int .i64 3,.int .i64 k2] 52)).alloc (.cells #[.int .i64 1,.int .i64 0] 52)) (by unfold rW;simp) ((bF _ _ _).trans (ae _ _));clear HP;go_enter Tryz.func145,Tryz.ntmps145;go_wp2_with fail
      all_goals exact bodyPost_ret (v:=.tuple #[.agg #[.int .i64 1,.int .i64 0],.bool true]) (by simp[results,Tryz.results145,go_sem] <;> assumption) rfl HZ
     ·have n6:=neb c6;have HZ:=HP.out 1 0 false (((w.alloc (.cells #[.int .i64 3,.int .i64 k2] 52)).alloc (.cells #[.int .i64 3,.int .i64 k2] 52)).alloc (.cells #[.int .i64 1,.int .i64 0] 52)) (by unfold rW;simp[c6]) ((bF _ _ _).trans (ae _ _));clear HP;go_enter Tryz.func145,Tryz.ntmps145;go_wp2_with fail
      all_goals exact bodyPost_ret (v:=.tuple #[.agg #[.int .i64 1,.int .i64 0],.bool false]) (by simp[results,Tryz.results145,go_sem] <;> assumption) rfl HZ
    ·have n1:=neb c1;have n2:=neb c2;have n3:=neb c3;have HZ:=HP.out 0 0 false (((w.alloc (.cells #[.int .i64 k1,.int .i64 k2] 52)).alloc (.cells #[.int .i64 k1,.int .i64 k2] 52)).alloc (.cells #[.int .i64 0,.int .i64 0] 52)) (by unfold rW;simp[c1,c2,c3]) ((bF _ _ _).trans (ae _ _));clear HP;go_enter Tryz.func145,Tryz.ntmps145;go_wp2_with fail
     all_goals exact bodyPost_ret (v:=.tuple #[.agg #[.int .i64 0,.int .i64 0],.bool false]) (by simp[results,Tryz.results145,go_sem] <;> assumption) rfl HZ
 ·have HZ:=HP.out 0 0 false (((w.alloc (.cells #[.int .i64 k1,.int .i64 k2] 52)).alloc (.cells #[.int .i64 l1,.int .i64 l2] 52)).alloc (.cells #[.int .i64 0,.int .i64 0] 52)) (by unfold rW;rw[if_neg (by simpa using he)];rfl) ((bF _ _ _).trans (ae _ _));have qe:((k1==l1)&&(k2==l2))=false:=by rw[<-Bool.not_eq_true];simpa using he
  clear HP he;go_enter Tryz.func145,Tryz.ntmps145;go_wp2_with fail
  all_goals exact bodyPost_ret (v:=.tuple #[.agg #[.int .i64 0,.int .i64 0],.bool false]) (by simp[results,Tryz.results145,go_sem] <;> assumption) rfl HZ
def nbN (fs all seen:List (List Int)) (k n:Int) (nm:List Int):Int:=if k=3 then (jO all seen nm).getD 0 else if k=6 then (plc fs nm).getD 0 else n
mutual
def Ex.nb (fs all seen:List (List Int)):Ex->Ex
 | .mk k n tk tn nm ks=>.mk k (nbN fs all seen k n nm) tk tn nm (Ex.nbs fs all seen ks)
def Ex.nbs (fs all seen:List (List Int)):List Ex->List Ex
 | []=>[]
 | x::r=>x.nb fs all seen::Ex.nbs fs all seen r
end
theorem Ex.sN (fs all seen:List (List Int)) (l:List Ex):Ex.nbs fs all seen l=l.map (Ex.nb fs all seen):=by
 induction l with
 | nil=>rw[Ex.nbs];rfl
 | cons x r ih=>rw[Ex.nbs,ih];rfl
theorem Ex.Fh (fs all seen:List (List Int)) (x:Ex):(x.nb fs all seen).kind=x.kind/\(x.nb fs all seen).n=nbN fs all seen x.kind x.n x.name/\(x.nb fs all seen).tk=x.tk/\(x.nb fs all seen).tn=x.tn/\(x.nb fs all seen).name=x.name/\(x.nb fs all seen).kids=Ex.nbs fs all seen x.kids:=by
 obtain⟨k,n,tk,tn,nm,ks⟩:=x;rw[Ex.nb];exact⟨rfl,rfl,rfl,rfl,rfl,rfl⟩
theorem Ex.oZ (l:List Ex):Ex.ah l=l.map Ex.dat:=by
 induction l with
 | nil=>rfl
 | cons x r ih=>show x.dat::Ex.ah r=_;rw[ih];rfl
def Sp (K bf bd bs b:Nat):Prop:=b≠K/\b≠bf/\b≠bd/\b≠bs/\b≠0/\b≠1
theorem Ng.wO {w w':World}{K bf bd bs:Nat}{fs all seen:List (List Int)}{F:List Nat}(h:Ng w K bf bd bs fs all seen) (o:ay F w w') (hs:∀ b∈F,Sp K bf bd bs b):Ng w' K bf bd bs fs all seen:=by
 refine h.kept o.size fun b hb=>?_;obtain⟨n,hf⟩:=h.mf;obtain⟨m,_,hm⟩:=h.ms;rcases hb with rfl|rfl|rfl|rfl
 ·exact o.block _ h.box.lt (fun q=>(hs _ q).1 rfl)
 ·exact o.block _ hf.lt (fun q=>(hs _ q).2.1 rfl)
 ·exact o.block _ h.md.lt (fun q=>(hs _ q).2.2.1 rfl)
 ·exact o.block _ hm.lt (fun q=>(hs _ q).2.2.2.1 rfl)
theorem Ng.later {w w':World}{K bf bd bs:Nat}{fs all seen:List (List Int)}(h:Ng w K bf bd bs fs all seen) (o:Later w w'):Ng w' K bf bd bs fs all seen:=by
 refine h.kept o.size fun b hb=>?_;obtain⟨n,hf⟩:=h.mf;obtain⟨m,_,hm⟩:=h.ms;rcases hb with rfl|rfl|rfl|rfl
 ·exact o.block _ h.box.lt
 ·exact o.block _ hf.lt
 ·exact o.block _ h.md.lt
 ·exact o.block _ hm.lt
theorem aj {w w':World}{b o:Nat}(h:w'.heap[b]?=w.heap[b]?):w'.cell? ⟨b,o,none⟩=w.cell? ⟨b,o,none⟩/\w'.frozen? ⟨b,o,none⟩=w.frozen? ⟨b,o,none⟩:=by unfold World.cell? World.frozen?;rw[h];exact⟨rfl,rfl⟩
theorem TyE.wO {w w':World}{K bf bd bs:Nat}{F:List Nat}(h:TyE w) (o:ay F w w') (hs:∀ b∈F,Sp K bf bd bs b):TyE w':=by
 have hi:=o.block _ (aK h.i0) (fun q=>(hs _ q).2.2.2.2.1 rfl);have hf:=o.block _ (aK h.f0) (fun q=>(hs _ q).2.2.2.2.2 rfl);exact⟨by rw[(aj hi).1];exact h.i0,by rw[(aj hi).1];exact h.i1,by rw[(aj hf).1];exact h.f0,by rw[(aj hf).1];exact h.f1⟩
structure EIn (w:World) (K bf bd bs:Nat) (fs all seen:List (List Int)) (x:Ex) (g o:Nat) (v0 v1:Value) (G0 G1:List Nat):Prop where
 ng:Ng w K bf bd bs fs all seen
 ty:TyE w
 lt:g<w.heap.size
 cells:∀ m u,[.int .i64 x.kind,.int .i64 x.n,.int .i64 x.tk,.int .i64 x.tn,v0,v1][m]?=some u->w.cell? ⟨g,o+m,none⟩=some u/\w.frozen? ⟨g,o+m,none⟩=false
 nm:ai w (.bytes x.name) [v0] G0
 kids:ai w (.list 6 (Ex.ah x.kids)) [v1] G1
 nd:(g::(G0++G1)).Nodup
 sep:∀ b∈g::(G0++G1),Sp K bf bd bs b
theorem EIn.later {w w':World}{K bf bd bs:Nat}{fs all seen:List (List Int)}{x:Ex}{g o:Nat}{v0 v1:Value}{G0 G1:List Nat}(h:EIn w K bf bd bs fs all seen x g o v0 v1 G0 G1) (l:Later w w'):EIn w' K bf bd bs fs all seen x g o v0 v1 G0 G1:=by
 have hb:=fun y=>aj (w:=w) (w':=w') (b:=g) (o:=y) (l.block g h.lt);exact⟨h.ng.later l,h.ty.later l,Nat.lt_of_lt_of_le h.lt l.size,fun m u hm=>by rw[(hb (o+m)).1,(hb (o+m)).2];exact h.cells m u hm,ai.agree l.size _ h.nm (fun b q=>l.block b (ai.lt _ h.nm b q)),ai.agree l.size _ h.kids (fun b q=>l.block b (ai.lt _ h.kids b q)),h.nd,h.sep⟩
def EPt (w:World) (fs all seen:List (List Int)) (x:Ex) (g o:Nat) (v1:Value) (G1:List Nat) (e:Ending) (w':World):Prop :=
 ∃ b,e=.returned (.bool b)/\b=x.lN fs seen/\OnlyC g (o+1) G1 w w'/\(b=true->w'.cell? ⟨g,o+1,none⟩=some (.int .i64 (nbN fs all seen x.kind x.n x.name))/\ai w' (.list 6 (Ex.ah (Ex.nbs fs all seen x.kids))) [v1] G1)
def EWi (w:World) (fs all seen:List (List Int)) (ks:List Ex) (v1:Value) (G1:List Nat) (e:Ending) (w':World):Prop :=
 ∃ b,e=.returned (.bool b)/\b=Ex.bM fs seen ks/\ay G1 w w'/\(b=true->ai w' (.list 6 (Ex.ah (Ex.nbs fs all seen ks))) [v1] G1)
def sofar (fs all seen:List (List Int)) (ks:List Ex) (j:Nat):List Ex:=Ex.nbs fs all seen (ks.take j)++ks.drop j
theorem xO (fs all seen:List (List Int)) (ks:List Ex) (j:Nat):(sofar fs all seen ks j).length=ks.length:=by unfold sofar;rw[Ex.sN,List.length_append,List.length_map,List.length_take,List.length_drop];omega
theorem NV (fs all seen:List (List Int)) (ks:List Ex) (j:Nat) (h:j<ks.length):(sofar fs all seen ks j)[j]'(by rw[xO];exact h)=ks[j]:=by
 unfold sofar;have e:(Ex.nbs fs all seen (ks.take j)).length=j:=by rw[Ex.sN,List.length_map,List.length_take];omega
 rw[List.getElem_append_right (by omega)];simp[e]
theorem KZ (fs all seen:List (List Int)) (ks:List Ex) (j:Nat) (h:j<ks.length):(sofar fs all seen ks j).set j (ks[j].nb fs all seen)=sofar fs all seen ks (j+1):=by
 unfold sofar;have e:(Ex.nbs fs all seen (ks.take j)).length=j:=by rw[Ex.sN,List.length_map,List.length_take];omega
 rw[List.set_append_right _ _ (by omega),e,Nat.sub_self,List.drop_eq_getElem_cons h,List.set_cons_zero,List.take_succ_eq_append_getElem h,Ex.sN,Ex.sN,List.map_append,List.append_assoc];rfl
theorem FN {w wr:World}{K bf bd bs:Nat}{fs all seen:List (List Int)}{ks:List Ex}{gk:Nat}{F:List Nat}{j:Nat}(hng:Ng w K bf bd bs fs all seen) (hty:TyE w) (hl:gk<w.heap.size) (hO:ay (gk::F) w wr) (hA:ax wr 6 gk 0 (Ex.ah (sofar fs all seen ks j)) F) (hnd:(gk::F).Nodup) (hsp:∀ b∈gk::F,Sp K bf bd bs b) (hj:j<ks.length) :
  ∃ u0 u1 H0 H1,EIn wr K bf bd bs fs all seen ks[j] gk (j*6) u0 u1 H0 H1/\∀ w1 w2,Later wr w1->OnlyC gk (j*6+1) H1 w1 w2->ay (gk::F) w w2/\(w2.cell? ⟨gk,j*6+1,none⟩=some (.int .i64 (nbN fs all seen ks[j].kind ks[j].n ks[j].name))->ai w2 (.list 6 (Ex.ah (Ex.nbs fs all seen ks[j].kids))) [u1] H1->ax w2 6 gk 0 (Ex.ah (sofar fs all seen ks (j+1))) F):=by
 have hjl:j<(Ex.ah (sofar fs all seen ks j)).length:=by rw[Ex.az,xO];exact hj
 obtain⟨cs,F1,Fj,F2,rfl,hk,hc,hd,HK⟩:=ax.lens _ j hjl hA;rw[Ex.dP _ j (by rw[xO];exact hj),NV _ _ _ _ _ hj]at hd;obtain⟨u0,u1,H0,H1,rfl,rfl,hn,hkd⟩:=Ex.iO hd;rw[Nat.zero_add]at hc HK;have hlr:gk<wr.heap.size:=Nat.lt_of_lt_of_le hl hO.size;have hin:∀ b∈H0++H1,b∈F1++((H0++H1)++F2):=fun b q=>List.mem_append_right _ (List.mem_append_left _ q);have hnd':=List.nodup_cons.1 hnd;have hgn:gk∉H0++H1:=fun q=>hnd'.1 (hin _ q);have n1:=List.nodup_append.1 hnd'.2;have n2:=List.nodup_append.1 n1.2.1;have n3:=List.nodup_append.1 n2.1;refine⟨u0,u1,H0,H1,⟨hng.wO hO hsp,hty.wO hO hsp,hlr,hc,hn,hkd,List.nodup_cons.2 ⟨hgn,n2.1⟩,fun b q=>hsp b ?_⟩,fun w1 w2 l1 oc=>⟨?_,fun hcell hown=>?_⟩⟩
 ·rcases List.mem_cons.1 q with rfl|q
  ·exact List.mem_cons_self ..
  ·exact List.mem_cons_of_mem _ (hin b q)
 ·have o1:ay (gk::(F1++((H0++H1)++F2))) wr w1:=⟨l1.os,l1.tape,l1.output,l1.size,fun b hb _=>l1.block b hb⟩
  refine (hO.trans o1).trans (oc.only.mono fun b q=>?_);rcases List.mem_cons.1 q with rfl|q
  ·exact List.mem_cons_self ..
  ·exact List.mem_cons_of_mem _ (hin b (List.mem_append_right _ q))
 ·have hb1:∀ b,b<wr.heap.size->b∉H1->b≠gk->w2.heap[b]?=wr.heap[b]?:=fun b hb hn hg=>by rw[oc.block b (Nat.lt_of_lt_of_le hb l1.size) hn hg,l1.block b hb]
  have hcell1:∀ y,y≠j*6+1->w2.cell? ⟨gk,y,none⟩=wr.cell? ⟨gk,y,none⟩:=fun y hy=>by rw[oc.cells y hy,(aj (l1.block gk hlr)).1]
  have hfr1:∀ y,w2.frozen? ⟨gk,y,none⟩=wr.frozen? ⟨gk,y,none⟩:=fun y=>by rw[oc.Jf y,(aj (l1.block gk hlr)).2]
  have hsz:wr.heap.size<=w2.heap.size:=Nat.le_trans l1.size oc.size;have hn2:ai w2 (.bytes ks[j].name) [u0] H0:=ai.agree hsz _ hn (fun b q=>hb1 b (ai.lt _ hn b q) (fun q'=>n3.2.2 b q b q' rfl) (fun e=>hgn (e ▸ List.mem_append_left _ q)));obtain⟨e1,e2,e3,e4,e5,e6⟩:=Ex.Fh fs all seen ks[j];have hd2:=Ex.own (x:=ks[j].nb fs all seen) (by rw[e5];exact hn2) (by rw[e6];exact hown);have hgoal:=HK w2 (ks[j].nb fs all seen).dat _ rfl (fun m u hm=>?_) hd2 hsz (fun y hy=>⟨hcell1 y (by omega),hfr1 y⟩) (fun b q=>?_)
  ·rw[Ex.oZ,<- List.map_set,KZ _ _ _ _ _ hj,<- Ex.oZ]at hgoal;exact hgoal
  ·rw[e1,e2,e3,e4]at hm;by_cases hm1:m=1
   ·subst hm1;have:u=.int .i64 (nbN fs all seen ks[j].kind ks[j].n ks[j].name):=by simpa using hm.symm
    rw[this];exact⟨hcell,by rw[hfr1];exact (hc 1 _ rfl).2⟩
   ·have:[Value.int .i64 ks[j].kind,.int .i64 ks[j].n,.int .i64 ks[j].tk,.int .i64 ks[j].tn,u0,u1][m]?=some u:=by
     rcases m with _|_|m
     ·exact hm
     ·exact absurd rfl hm1
     ·exact hm
    rw[hcell1 _ (by omega),hfr1];exact hc m u this
  ·have hbm:b∈F1++((H0++H1)++F2):=by rcases q with q|q;exact List.mem_append_left _ q;exact List.mem_append_right _ (List.mem_append_right _ q)
   refine hb1 b ?_ (fun q'=>?_) (fun e=>hnd'.1 (e ▸ hbm))
   ·exact ax.lt _ hA b hbm
   ·rcases q with q|q
    ·exact n1.2.2 b q b (List.mem_append_left _ (List.mem_append_right _ q')) rfl
    ·exact n2.2.2 b (List.mem_append_right _ q') b q rfl
theorem CS {w:World}{fs all seen:List (List Int)}{ks:List Ex}{v:Value}{G:List Nat}(h:ai w (.list 6 (Ex.ah ks)) [v] G):∃ a cap,v=.slice a ks.length cap/\ks.length<=1048576/\(0<ks.length->∃ g F,a=some ⟨g,0,none⟩/\G=g::F/\g<w.heap.size/\ax w 6 g 0 (Ex.ah ks) F) /\
  (∀ w',w.heap.size<=w'.heap.size->(∀ g F,G=g::F->0<ks.length->ax w' 6 g 0 (Ex.ah (Ex.nbs fs all seen ks)) F)->ai w' (.list 6 (Ex.ah (Ex.nbs fs all seen ks))) [v] G):=by
 rw[ai]at h;obtain⟨a,cap,hc,⟨h1,h2,h3⟩,hp,hz⟩:=h;have hv:v=.slice a (Ex.ah ks).length cap:=by simpa using hc
 rw[Ex.az]at *;subst hv;refine⟨a,cap,rfl,h1,hp,fun w' hs hA=>?_⟩;have el:(Ex.nbs fs all seen ks).length=ks.length:=by rw[Ex.sN,List.length_map]
 rw[ai,Ex.az,el];refine⟨a,cap,rfl,⟨h1,h2,h3⟩,fun q=>?_,hz⟩;obtain⟨g,F,e1,e2,e3,_⟩:=hp q;exact⟨g,F,e1,e2,by omega,hA g F e2 q⟩
theorem ay.of_later {F:List Nat}{w w':World}(h:Later w w'):ay F w w':=⟨h.os,h.tape,h.output,h.size,fun b hb _=>h.block b hb⟩
theorem zM (fs all seen:List (List Int)) (ks:List Ex):sofar fs all seen ks 0=ks:=by unfold sofar;rw[List.take_zero,Ex.nbs];rfl
theorem Cb (fs all seen:List (List Int)) (ks:List Ex):sofar fs all seen ks ks.length=Ex.nbs fs all seen ks:=by unfold sofar;rw[List.take_length,List.drop_length,List.append_nil]
theorem zF (fs seen:List (List Int)) (l r:List Ex):Ex.bM fs seen (l++r)=(Ex.bM fs seen l&&Ex.bM fs seen r):=by
 induction l with
 | nil=>rw[List.nil_append,Ex.bM,Bool.true_and]
 | cons x l ih=>rw[List.cons_append,Ex.bM,Ex.bM,ih,Bool.and_assoc]
theorem qO {fs seen:List (List Int)}{ks:List Ex}{j:Nat}(h:j<ks.length):Ex.bM fs seen (ks.take (j+1))=(Ex.bM fs seen (ks.take j)&&ks[j].lN fs seen):=by rw[List.take_succ_eq_append_getElem h,zF,Ex.bM,Ex.bM,Bool.and_true]
theorem zD {fs seen:List (List Int)}{ks:List Ex}{j:Nat}(h:j<ks.length) (hb:ks[j].lN fs seen=false):Ex.bM fs seen ks=false:=by
 have e:=List.take_append_drop (j+1) ks;rw[<-e,zF,qO h,hb,Bool.and_false,Bool.false_and]
def oq (x:Ex):Prop:=∀ w K bf bd bs fs all seen g o v0 v1 G0 G1,EIn w K bf bd bs fs all seen x g o v0 v1 G0 G1->Calls Tryz.prog 58 #[.pointer (some ⟨K,0,none⟩),exV x.kind x.n g o] w (EPt w fs all seen x g o v1 G1)
theorem Au (ks:List Ex) (hI:∀ j (hj:j<ks.length),oq ks[j]) (w:World) (K bf bd bs:Nat) (fs all seen:List (List Int)) (g o:Nat) (v1:Value) (G1:List Nat) (T:TypeId) (pv:Value)
  (hng:Ng w K bf bd bs fs all seen) (hty:TyE w) (h5:w.cell? ⟨g,o+5,none⟩=some v1) (hk:ai w (.list 6 (Ex.ah ks)) [v1] G1) (hnd:G1.Nodup) (hsp:∀ b∈G1,Sp K bf bd bs b)
  (hV:ig T pv ⟨g,o,none⟩ 197 196) :
  Calls Tryz.prog 88 #[.pointer (some ⟨K,0,none⟩),.iface T pv] w (EWi w fs all seen ks v1 G1):=by
 obtain⟨a,cap,rfl,hlen,hpos,hback⟩:=CS (fs:=fs) (all:=all) (seen:=seen) hk;have hmk:=hV.kids;have hmb:=hV.blocks;have hK:=TW g o a ks.length cap w h5;have hB:=fun w'=>iblkE (.agg #[.pointer (some ⟨g,o,none⟩)]) w' ⟨_,rfl⟩
 have HF:Hid (∀ w' j,(hj:j<ks.length)->ay G1 w w'->ks[j].lN fs seen=false->EWi w fs all seen ks (.slice a ks.length cap) G1 (.returned (.bool false)) w'):=fun w' j hj o1 hb=>⟨false,rfl,(zD hj hb).symm,o1,fun h=>by cases h⟩
 have HT:Hid (∀ w',ay G1 w w'->(∀ g F,G1=g::F->0<ks.length->ax w' 6 g 0 (Ex.ah (sofar fs all seen ks ks.length)) F)->Ex.bM fs seen (ks.take ks.length)=true->EWi w fs all seen ks (.slice a ks.length cap) G1 (.returned (.bool true)) w'):=fun w' o1 hA hu=>⟨true,rfl,by rw[List.take_length]at hu;exact hu.symm,o1,fun _=>hback w' o1.size (fun g F e q=>by have:=hA g F e q;rw[Cb]at this;exact this)⟩
 have HS:Hid (∀ g F,G1=g::F->0<ks.length->ax w 6 g 0 (Ex.ah (sofar fs all seen ks 0)) F):=fun g' F e q=>by
  obtain⟨g2,F2,_,e2,_,hA⟩:=hpos q;rw[e]at e2
  cases e2
  rw[zM];exact hA
 have HP:Hid (0<ks.length->∃ g F,a=some ⟨g,0,none⟩/\G1=g::F/\g<w.heap.size):=fun q=>by obtain⟨g2,F2,e1,e2,e3,_⟩:=hpos q;exact⟨g2,F2,e1,e2,e3⟩
 have HL:Hid (∀ b∈G1,b<w.heap.size):=fun b q=>ai.lt _ hk b q;have hI':Hid _:=hI;clear hV hback hpos hk hI h5
 generalize hQ:EWi w fs all seen ks (.slice a ks.length cap) G1=Q at *
 clear hQ;go_enter Tryz.func88,Tryz.ntmps88;go_wp2_with fail
 refine hK.mono ?_;rintro e w1 ⟨rfl,l1⟩;have o1:ay G1 w w1:=ay.of_later l1
 have HS1:Hid (∀ g F,G1=g::F->0<ks.length->ax w1 6 g 0 (Ex.ah (sofar fs all seen ks 0)) F):=fun g' F e q=>by
  obtain⟨g2,F2,e1,e2,e3⟩:=HP.out q;rw[e2]at e
  cases e
  exact ax.agree l1.size _ (HS.out _ _ e2 q) (l1.block _ e3) (fun b hb=>l1.block b (HL.out b (by rw[e2];exact List.mem_cons_of_mem _ hb)))
 clear hK HS l1;go_wp2_with fail
 go_loopw [13] (fun i wr=>∃ (j:Nat),i=.int .i64 (j:Int)/\j<=ks.length/\ay G1 w wr/\(∀ g F,G1=g::F->0<ks.length->ax wr 6 g 0 (Ex.ah (sofar fs all seen ks j)) F)/\Hid (Ex.bM fs seen (ks.take j)=true)) (fun i _=>ks.length - (intOf i).toNat)
 case atStart=>exact⟨0,rfl,Nat.zero_le _,o1,HS1.out,by unfold Hid;rw[List.take_zero,Ex.bM]⟩
 case round =>
  obtain⟨j,rfl,hj,oR,hA,HU⟩:=hrel;clear o1 HS1;by_cases hlt:j<ks.length
  ·obtain⟨gk,F,rfl,rfl,hgk⟩:=HP.out (by omega);have i1:(j:Int)<(ks.length:Int):=by omega
   obtain⟨u0,u1,H0,H1,hE,HK⟩:=FN hng hty hgk oR (hA _ _ rfl (by omega)) hnd hsp hlt;have hP1:=AQ ks[j].kind ks[j].n gk (j*6) wr hE.ty (hE.cells 0 _ rfl).1 (hE.cells 1 _ rfl).1;have hP2:=fun w' (l:Later wr w')=>hI'.out j hlt w' K bf bd bs fs all seen gk (j*6) u0 u1 H0 H1 (hE.later l);have HK':Hid _:=HK;have hgw:=hE.lt;clear HK hE hA oR;go_wp2_with fail
   refine hP1.mono ?_;rintro e w2 ⟨rfl,l2⟩;have hP3:=hP2 w2 l2;clear hP1 hP2
   generalize hxv:exV ks[j].kind ks[j].n gk (j*6)=xv at *
   clear hxv;go_wp2_with fail
   refine hP3.mono ?_;rintro e w3 ⟨b,rfl,hb,oc,hok⟩;obtain⟨o3,HA⟩:=HK'.out w2 w3 l2 oc;have HB2:Hid (b=true->ax w3 6 gk 0 (Ex.ah (sofar fs all seen ks (j+1))) F):=fun q=>HA (hok q).1 (hok q).2;have HU2:Hid (b=true->Ex.bM fs seen (ks.take (j+1))=true):=fun q=>by rw[qO hlt,HU.out,<- hb,q];rfl
   have HF2:Hid (b=false->Q (.returned (.bool false)) w3):=fun q=>HF.out w3 j hlt o3 (by rw[<-hb,q]);clear hP3 hok HA HK' oc hb HU
   cases b with
   | false =>
    have HF3:=HF2.out rfl;clear HF2 HU2 HB2;go_wp2_with fail
    exact HF3
   | true =>
    have hA3:=HB2.out rfl;have HU3:Hid (Ex.bM fs seen (ks.take (j+1))=true):=HU2.out rfl;clear HF2 HU2 HB2;go_wp2_with fail
    go_roundw
    case rel=>exact⟨j+1,by go_num,by omega,o3,fun g' F' e _=>by cases e;exact hA3,HU3⟩
    case measure=>simp[intOf];omega
  ·have i1:¬ (j:Int)<(ks.length:Int):=by omega
   have i2:decide ((j:Int)<(ks.length:Int))=false:=decide_eq_false i1;have hjj:j=ks.length:=by omega
   subst hjj
   have HT2:Hid (∀ w',Later wr w'->Q (.returned (.bool true)) w'):=fun w' l=>HT.out w' (oR.trans (ay.of_later l)) (fun g' F e q=>by
    obtain⟨g2,F2,e1,e2,e3⟩:=HP.out q;rw[e2]at e
    cases e
    refine ax.agree l.size _ (hA _ _ e2 q) (l.block _ (Nat.lt_of_lt_of_le e3 oR.size)) (fun b hb=>l.block b (Nat.lt_of_lt_of_le (HL.out b (by rw[e2];exact List.mem_cons_of_mem _ hb)) oR.size))) HU.out
   have hB2:=hB wr;clear HT hA HU HF hI' HP HL hB;go_wp2_with fail
   refine hB2.mono ?_;rintro e w4 ⟨rfl,l4⟩;have HT3:=HT2.out w4 l4;clear hB2 HT2;go_wp2_with fail
   go_loopw [27] (fun i wr=>i=.int .i64 0/\wr=w4) (fun _ _=>0)
   case atStart=>exact⟨rfl,rfl⟩
   case round =>
    obtain⟨rfl,rfl⟩:=hrel;go_wp2_with fail
    exact HT3
structure HdR (w:World) (v0 v1:Value) (S:List Sc) (Fs:List Fu):Prop where
 st:RdL w 2 v0 (Sc.ah S)
 fu:∃ a cap,v1=.slice a Fs.length cap/\∀ i (hi:i<Fs.length),∃ g off e0 e1 e2,a=some ⟨g,off,none⟩/\g<w.heap.size/\w.cell? ⟨g,off+i*5,none⟩=some e0/\w.cell? ⟨g,off+i*5+1,none⟩=some e1/\w.cell? ⟨g,off+i*5+2,none⟩=some (.int .i64 Fs[i].rk)/\w.cell? ⟨g,off+i*5+3,none⟩=some (.int .i64 Fs[i].rn)/\w.cell? ⟨g,off+i*5+4,none⟩=some e2/\(∃ a n c,e0=.slice a n c)/\(∃ a n c,e2=.slice a n c)/\RdL w 3 e1 (Pa.ah Fs[i].params)
def eP:List TyP->List Value
 | []=>[]
 | t::r=>.int .i64 t.1::.int .i64 t.2::eP r
theorem yA (a b:List TyP):eP (a++b)=eP a++eP b:=by
 induction a with
 | nil=>rfl
 | cons t r ih=>rw[List.cons_append,eP,ih,eP];rfl
theorem zH:∀ (ts:List TyP) (i:Nat) (h:i<ts.length),(eP ts)[i*2]?=some (.int .i64 ts[i].1)/\(eP ts)[i*2+1]?=some (.int .i64 ts[i].2)
 | t::r,0,_=>⟨rfl,rfl⟩
 | t::r,i+1,h=>by
  obtain⟨a,b⟩:=zH r i (Nat.lt_of_succ_lt_succ h);rw[eP,show (i+1)*2=i*2+1+1 by omega];exact⟨a,b⟩
def mJ (X:List Nat) (K:Nat) (w w':World):Prop:=w.heap.size<=w'.heap.size/\∀ b,b<K->b∉X->w'.heap[b]?=w.heap[b]?
theorem mJ.refl (X:List Nat) (K:Nat) (w:World):mJ X K w w:=⟨Nat.le_refl _,fun _ _ _=>rfl⟩
theorem mJ.trans {X:List Nat}{K:Nat}{a b c:World}(h:mJ X K a b) (k:mJ X K b c):mJ X K a c:=⟨Nat.le_trans h.1 k.1,fun x hx hn=>by rw[k.2 x hx hn,h.2 x hx hn]⟩
structure Tg (X:List Nat) (w:World) (K:Nat) (v0 v1:Value) (S:List Sc) (Fs:List Fu) (res:TyP) (ts:List TyP):Prop where
 box:∃ vs,Bxx w K [v0,v1,.int .i64 res.1,.int .i64 res.2,vs]/\w.ownsRow (K+1) 52 2 vs ts.length (eP ts)
 hd:∀ w',mJ X K w w'->HdR w' v0 v1 S Fs
 ty:∀ w',mJ X K w w'->TyE w'
theorem Tg.lt {X:List Nat}{w:World}{K:Nat}{v0 v1:Value}{S:List Sc}{Fs:List Fu}{res:TyP}{ts:List TyP}(h:Tg X w K v0 v1 S Fs res ts):K<w.heap.size:=by obtain⟨vs,h1,_⟩:=h.box;exact h1.lt
theorem Tg.now {X:List Nat}{w:World}{K:Nat}{v0 v1:Value}{S:List Sc}{Fs:List Fu}{res:TyP}{ts:List TyP}(h:Tg X w K v0 v1 S Fs res ts):HdR w v0 v1 S Fs/\TyE w:=⟨h.hd w (mJ.refl _ _ _),h.ty w (mJ.refl _ _ _)⟩
theorem Tg.only {X F:List Nat}{w w':World}{K:Nat}{v0 v1:Value}{S:List Sc}{Fs:List Fu}{res:TyP}{ts:List TyP}(h:Tg X w K v0 v1 S Fs res ts) (o:ay F w w') (hF:∀ b∈F,b∈X/\b<K):Tg X w' K v0 v1 S Fs res ts:=by
 have hK:=h.lt
 have hs:mJ X K w w':=⟨o.size,fun b hb hn=>o.block b (by omega) (fun q=>hn (hF b q).1)⟩
 obtain⟨vs,hb,hr⟩:=h.box;refine⟨⟨vs,hb.kept o.size (o.block K hK (fun q=>Nat.lt_irrefl _ (hF K q).2)),?_⟩,fun w2 q=>h.hd w2 (hs.trans q),fun w2 q=>h.ty w2 (hs.trans q)⟩;exact cu hr ⟨o.size,fun b hl hb=>o.block b hb (fun q=>by have:=(hF b q).2;omega)⟩
theorem Tg.later {X:List Nat}{w w':World}{K:Nat}{v0 v1:Value}{S:List Sc}{Fs:List Fu}{res:TyP}{ts:List TyP}(h:Tg X w K v0 v1 S Fs res ts) (l:Later w w'):Tg X w' K v0 v1 S Fs res ts:=h.only (F:=[]) (ay.of_later l) (fun b q=>by cases q)
def Tf (l:List Pa) (nm:List Int):Option Nat:=l.findIdx? (fun p=>decide (p.name=nm))
def oV (S:List Sc) (nm:List Int) (t:TyP):Option (Int × Int × Int) :=
 if t.1=3 then match S[t.2.toNat]? with
  | none=>none
  | some s=>match Tf s.fields nm with
   | none=>none
   | some i=>(s.fields[i]?).map fun p=>((i:Int),p.tk,p.tn)
 else none
theorem Qe {S:List Sc}{nm:List Int}{m:Int}{j:Nat}(hm:m.toNat<S.length) (hj:j<S[m.toNat].fields.length) (he:S[m.toNat].fields[j].name=nm) (hb:∀ i (hi:i<S[m.toNat].fields.length),i<j->S[m.toNat].fields[i].name≠nm):oV S nm (3,m)=some ((j:Int),S[m.toNat].fields[j].tk,S[m.toNat].fields[j].tn):=by
 unfold oV Tf;rw[if_pos rfl,List.getElem?_eq_getElem hm]
 have:S[m.toNat].fields.findIdx? (fun p=>decide (p.name=nm))=some j:=by
  rw[List.findIdx?_eq_some_iff_getElem];exact⟨hj,by simpa using he,fun i hi=>by simpa using hb i (by omega) hi⟩
 simp only[this,List.getElem?_eq_getElem hj,Option.map_some]
theorem Td {S:List Sc}{nm:List Int}{m:Int}(hm:m.toNat<S.length) (hb:∀ i (hi:i<S[m.toNat].fields.length),S[m.toNat].fields[i].name≠nm):oV S nm (3,m)=none:=by
 unfold oV Tf;rw[if_pos rfl,List.getElem?_eq_getElem hm]
 have:S[m.toNat].fields.findIdx? (fun p=>decide (p.name=nm))=none:=by
  rw[List.findIdx?_eq_none_iff];intro p hp;obtain⟨i,hi,rfl⟩:=List.mem_iff_getElem.1 hp;simpa using hb i hi
 simp only[this]
end Go.Proofs.YtgaddpkkjebekaaGreatDoor
