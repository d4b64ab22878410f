import Derived.Test.YtgholpilmdebmaaGreatDoorZ45
set_option maxHeartbeats 100000000
set_option maxRecDepth 100000
namespace Go.Proofs.YtgholpilmdebmaaGreatDoor
open Go.RowKit
theorem sstmt_one (x:St) (v0 v1 v2 v3:Value) (K:Nat) (s l d:Int) (w0 w:World) (hg:x.good) (h0:RdN w0 v0 x.name) (h1:RdL w0 6 v1 (Ex.dats x.kids)) (h2:RdL w0 8 v2 (St.dats x.body)) (h3:RdL w0 8 v3 (St.dats x.els)) (hL:Later w0 w) (hK:w0.heap.size≤K) (hC:Cn K w l) (hl0:0≤l) (hl1:l≤400) (hd0:0≤d) (hd1:d≤31)
  (ihb:∀ (v:Value) (l:List St) (q d:Int) (w:World),St.goods l→RdL w0 8 v (St.dats l)→St.szs l≤x.sz→Later w0 w→Cn K w q→0≤q→q≤400→0≤d→d≤31→Calls Tryz.prog 100 #[v,.int .i64 s,.int .i64 d,.pointer (some ⟨K,0,none⟩)] w fun e w'=>CnP K w (St.runs s d q l) e w') :
  Calls Tryz.prog 119 #[.agg #[.int .i64 x.kind,.int .i64 x.n,.int .i64 x.tk,.int .i64 x.tn,v0,v1,v2,v3],.int .i64 s,.int .i64 d,.pointer (some ⟨K,0,none⟩)] w fun e w'=>CnP K w (St.run s d l x) e w':=by
 have hne:w.heap.size≠K:=by have:=hC.lt;omega
 have hne':¬ K=w.heap.size:=by omega
 obtain⟨hn,hgk,hgb,hge⟩:=St.good_all hg;obtain⟨sz1,sz2,sz3⟩:=St.kids_le x
 have HR:Hid (St.run s d l x=if l - 1<0∨30<d∨((x.n==0)&&(kidsS x.kind x.kids.length==(x.kids.length:Int))&&(bodyS x.kind||decide (x.body.length=0))&&(otherS x.kind||decide (x.els.length=0))&&nameS s x.kind x.tk x.tn x.name&&headB x.kind x.kids)=false then none else St.tail s d x (Ex.runs s (d+1) (l - 1) x.kids)):=by
  show _=_;rw[St.run_eq',hereS_eq]
 have hNm:=fun w' (ll:Later w0 w')=>zdw v0 x.name w' (h0.later ll).rd;have hT:=fun w'=>ty_any x.tk x.tn s false w';have hE:=fun (j:Nat) (hj:j<x.kids.length) (u0 u1:Value) (q:Int) (w':World) (r0:RdN w0 u0 x.kids[j].name) (r1:RdL w0 6 u1 (Ex.dats x.kids[j].kids)) (ll:Later w0 w') (hC':Cn K w' q) (hq0:0≤q) (hq1:q≤400) (hd2:d≤30)=>sexprK_any x.kids[j] u0 u1 K s q (d+1) w0 w' (Ex.goods_at x.kids j hj hgk) r0 r1 ll hK hC' hq0 hq1 (by omega) (by omega);have hb2:=fun (q:Int) (w':World) (ll:Later w0 w') (hC':Cn K w' q) (hq0:0≤q) (hq1:q≤400) (hd2:d≤30)=>ihb v2 x.body q (d+1) w' hgb h2 sz2 ll hC' hq0 hq1 (by omega) (by omega);have hb3:=fun (q:Int) (w':World) (ll:Later w0 w') (hC':Cn K w' q) (hq0:0≤q) (hq1:q≤400) (hd2:d≤30)=>ihb v3 x.els q (d+1) w' hge h3 sz3 ll hC' hq0 hq1 (by omega) (by omega);have HT:Hid (0≤l - 1→Tail s d (l - 1) x (Ex.runs s (d+1) (l - 1) x.kids) (St.tail s d x (Ex.runs s (d+1) (l - 1) x.kids))):=fun h=>Tail.of h (by omega);obtain⟨a0,p0,rfl,hnl⟩:=h0.slice;obtain⟨a1,p1,rfl,hkn⟩:=Ex.slice h1;obtain⟨a2,p2,rfl,_⟩:=St.slice h2;obtain⟨a3,p3,rfl,_⟩:=St.slice h3;clear hg ihb h2 h3 hgb hge sz1 sz2 sz3 hgk;obtain⟨hC1,o1⟩:=step_down hC (.cells #[.int .i64 x.kind,.int .i64 x.n,.int .i64 x.tk,.int .i64 x.tn,.slice a0 x.name.length p0,.slice a1 x.kids.length p1,.slice a2 x.body.length p2,.slice a3 x.els.length p3] 92)
 have hB1:Bx w.heap.size ((w.setCell ⟨K,0,none⟩ (.int .i64 (l - 1))).alloc (.cells #[.int .i64 x.kind,.int .i64 x.n,.int .i64 x.tk,.int .i64 x.tn,.slice a0 x.name.length p0,.slice a1 x.kids.length p1,.slice a2 x.body.length p2,.slice a3 x.els.length p3] 92)) [.int .i64 x.kind,.int .i64 x.n,.int .i64 x.tk,.int .i64 x.tn,.slice a0 x.name.length p0,.slice a1 x.kids.length p1,.slice a2 x.body.length p2,.slice a3 x.els.length p3]:=by
  have:=Bx.new (w.setCell ⟨K,0,none⟩ (.int .i64 (l - 1))) [.int .i64 x.kind,.int .i64 x.n,.int .i64 x.tk,.int .i64 x.tn,.slice a0 x.name.length p0,.slice a1 x.kids.length p1,.slice a2 x.body.length p2,.slice a3 x.els.length p3] 92
  rwa [World.size_setCell]at this
 have c0:=hC.c0;have f0:=hC.f0;have hKw:=hC.lt;have hL1:=zbf hL o1 hK;have r1:-9223372036854775808≤l - 1:=by omega
 have r2:l - 1≤9223372036854775807:=by omega
 clear hC h0
 generalize St.run s d l x=R at *
 generalize hTT:St.tail s d x (Ex.runs s (d+1) (l - 1) x.kids)=TT at *
 clear hTT;have HNS:Hid (nameS s x.kind x.tk x.tn x.name=if x.kind=0 then nameL x.name&&tyB x.tk x.tn s false else decide (x.name.length=0)&&((x.tk==0)&&(x.tn==0))):=rfl;have HHD:Hid (headB x.kind x.kids=headB x.kind x.kids):=rfl
 generalize hXB:(fun l1=>St.runs s (d+1) l1 x.body)=XB at *
 generalize nameS s x.kind x.tk x.tn x.name=ns at *
 generalize nameL x.name=nm at *
 generalize tyB x.tk x.tn s false=tb at *
 generalize x.name.length=nlen at *
 generalize hbl:x.body.length=bl at *
 generalize hel:x.els.length=el at *
 generalize hks:x.kids=ks at *
 generalize x.n=n at *
 generalize x.tk=tk at *
 generalize x.tn=tn at *
 generalize x.kind=k at *
 clear hXB XB HHD hks hbl hel;go_enter Tryz.func119,Tryz.ntmps119;go_upto_region 2 with fail
 generalize (w.setCell ⟨K,0,none⟩ (.int .i64 (l - 1))).alloc (.cells #[.int .i64 k,.int .i64 n,.int .i64 tk,.int .i64 tn,.slice a0 nlen p0,.slice a1 ks.length p1,.slice a2 bl p2,.slice a3 el p3] 92)=W1 at *
 clear c0 f0;go_cut [31] from 13 (fun s31 wc=>s31=.bool (decide (l - 1<0)||decide (30<d)||(n != 0))∧wc=W1)
 case first =>
  have e0:=hC1.c0;have x0:=hB1.cell 0 _ rfl;have x1:=hB1.cell 1 _ rfl;have x2:=hB1.cell 2 _ rfl;have x3:=hB1.cell 3 _ rfl;have x4:=hB1.cell 4 _ rfl;have x5:=hB1.cell 5 _ rfl;have x6:=hB1.cell 6 _ rfl;have x7:=hB1.cell 7 _ rfl;clear HR h1 hC1 o1 hB1 hE hb2 hb3 HT hNm hT;by_cases q1:l - 1<0
  ·have q1':=decide_eq_true q1
   as_aux_lemma =>
    go_wp2_with fail
    go_meet
    case rel=>exact⟨by rw[q1'];rfl,rfl⟩
  ·have q1':=decide_eq_false q1;by_cases q2:30<d
   ·have q2':=decide_eq_true q2
    as_aux_lemma =>
     go_wp2_with fail
     go_meet
     case rel=>exact⟨by rw[q1',q2'];rfl,rfl⟩
   ·have q2':=decide_eq_false q2
    as_aux_lemma =>
     go_wp2_with fail
     go_meet
     case rel=>exact⟨by rw[q1',q2'];rfl,rfl⟩
 case rest =>
  obtain⟨rfl,hwc⟩:=hcut;obtain rfl:=hwc.symm;by_cases hbad:(decide (l - 1<0)||decide (30<d)||(n != 0))=true
  ·have hr:R=none:=by
    rw[HR.out,if_pos];simp only[Bool.or_eq_true,decide_eq_true_eq]at hbad;rcases hbad with (h|h)|h
    ·exact .inl h
    ·exact .inr (.inl h)
    ·right;right
     have:(n==0)=false:=by rw[bne]at h;simpa using h
     rw[this];rfl
   rw[hbad];subst hr
   as_aux_lemma =>
    go_wp2_with fail
    go_ret;exact CnP.no o1 rfl rfl hC1
  ·have hb':(decide (l - 1<0)||decide (30<d)||(n != 0))=false:=by simpa using hbad
   rw[hb'];simp only[Bool.or_eq_false_iff,decide_eq_false_iff_not]at hb';obtain⟨⟨q1,q2⟩,q3⟩:=hb';have q3':(n==0)=true:=by rw[bne]at q3;simpa using q3
   have HR':Hid (R=if ((kidsS k ks.length==(ks.length:Int))&&(bodyS k||decide (bl=0))&&(otherS k||decide (el=0))&&ns&&headB k ks)=false then none else TT):=by
    show _=_;rw[HR.out,q3',Bool.true_and];by_cases hh:((kidsS k ks.length==(ks.length:Int))&&(bodyS k||decide (bl=0))&&(otherS k||decide (el=0))&&ns&&headB k ks)=false
    ·rw[if_pos hh,if_pos (.inr (.inr hh))]
    ·rw[if_neg hh,if_neg (by rintro (h|h|h);exact q1 h;exact q2 h;exact hh h)]
   have hd2:d≤30:=by omega
   have HT':=HT.out (by omega);clear hbad q3 q3' HR HT;have HR:=HR';clear HR';have hCc:=hC1;clear hC1;have hBc:=hB1;clear hB1;have hLc:=hL1;clear hL1;have oc:=o1;clear o1;have x0':=hBc.cell 0 _ rfl;go_upto_block 0 with fail
   go_cut [9,10,11] from 34 (fun s9 s10 s11 we=>s9=.int .i64 (kidsS k ks.length)∧s10=.bool (bodyS k)∧s11=.bool (otherS k)∧we=W1)
   case first =>
    have x4':=hBc.cell 5 _ rfl;clear h1 hE hb2 hb3 HT' hNm hT hBc;rcases formS_cases k with (rfl|rfl|rfl|rfl|rfl|rfl|rfl|rfl)|⟨n0,n1,n2,n3,n4,n5,n6,n7⟩
    ·as_aux_lemma =>
      go_wp2_with fail
      go_meet
      case rel=>exact⟨rfl,rfl,rfl,rfl⟩
    ·as_aux_lemma =>
      go_wp2_with fail
      go_meet
      case rel=>exact⟨rfl,rfl,rfl,rfl⟩
    ·as_aux_lemma =>
      go_wp2_with fail
      go_meet
      case rel=>exact⟨rfl,rfl,rfl,rfl⟩
    ·as_aux_lemma =>
      go_wp2_with fail
      go_meet
      case rel=>exact⟨rfl,rfl,rfl,rfl⟩
    ·by_cases g1:(ks.length:Int)≤1
     ·have g1':¬ 1<(ks.length:Int):=by omega
      have ek:kidsS 4 ks.length=(ks.length:Int):=by show (if (ks.length:Int)≤1 then (ks.length:Int) else -1)=_;rw[if_pos g1]
      as_aux_lemma =>
       go_wp2_with fail
       go_meet
       case rel=>exact⟨by rw[ek],rfl,rfl,rfl⟩
     ·have g1':1<(ks.length:Int):=by omega
      have ek:kidsS 4 ks.length=-1:=by show (if (ks.length:Int)≤1 then (ks.length:Int) else -1)=_;rw[if_neg g1]
      have hr:R=none:=by rw[HR.out,ek,kids_no];rfl
      subst hr
      as_aux_lemma =>
       go_wp2_with fail
       go_ret;exact CnP.no oc rfl rfl hCc
    ·as_aux_lemma =>
      go_wp2_with fail
      go_meet
      case rel=>exact⟨rfl,rfl,rfl,rfl⟩
    ·as_aux_lemma =>
      go_wp2_with fail
      go_meet
      case rel=>exact⟨rfl,rfl,rfl,rfl⟩
    ·as_aux_lemma =>
      go_wp2_with fail
      go_meet
      case rel=>exact⟨rfl,rfl,rfl,rfl⟩
    ·have ek:kidsS k ks.length=-1:=by unfold kidsS;rw[if_neg n0,if_neg n1,if_neg n4,if_neg (by omega)]
     have eb:bodyS k=false:=by unfold bodyS;rw[neb n2,neb n3];rfl
     have eo:otherS k=false:=neb n2;have e0:=neb n0;have e1:=neb n1;have e2:=neb n2;have e3:=neb n3;have e4:=neb n4;have e5:=neb n5;have e6:=neb n6;have e7:=neb n7;clear n0 n1 n2 n3 n4 n5 n6 n7
     as_aux_lemma =>
      go_wp2_with fail
      go_meet
      case rel=>exact⟨by rw[ek],by rw[eb],by rw[eo],rfl⟩
   case rest =>
    obtain⟨rfl,rfl,rfl,hwc⟩:=hcut;obtain rfl:=hwc.symm;have HA:Hid (∀ A B C,A=(kidsS k ks.length==(ks.length:Int))→B=(bodyS k||decide (bl=0))→C=(otherS k||decide (el=0))→R=if (A&&B&&C&&ns&&headB k ks)=false then none else TT):=fun A B C a b c=>by rw[a,b,c];exact HR.out
    clear HR;go_upto_region 25 with fail
    generalize hkv0:kidsS k ks.length=kv at *
    have HKE:Hid _:=hkv0;clear hkv0
    generalize bodyS k=bb at *
    generalize otherS k=ob at *
    go_cut [77] from 53 (fun s77 we=>s77=.bool (!((kv==(ks.length:Int))&&(bb||decide (bl=0))&&(ob||decide (el=0))))∧we=W1)
    case first =>
     have x0:=hBc.cell 0 _ rfl;have x1:=hBc.cell 1 _ rfl;have x2:=hBc.cell 2 _ rfl;have x3:=hBc.cell 3 _ rfl;have x4:=hBc.cell 4 _ rfl;have x5:=hBc.cell 5 _ rfl;have x6:=hBc.cell 6 _ rfl;have x7:=hBc.cell 7 _ rfl;clear h1 hE hb2 hb3 HT' hNm hT hBc HA HKE;by_cases ga:kv=(ks.length:Int)
     ·have ga':(kv==(ks.length:Int))=true:=by rw[ga];exact beq_self_eq_true _
      have ga2:(kv != (ks.length:Int))=false:=by rw[bne,ga'];rfl
      clear ga;by_cases gb:bl=0
      ·subst gb;by_cases gc:el=0
       ·subst gc
        cases bb <;> cases ob
        all_goals
         as_aux_lemma =>
          go_wp2_with fail
          go_meet
          case rel=>exact⟨by rw[ga'];rfl,rfl⟩
       ·have gc':(0:Int)<(el:Int):=by omega
        have gcd:=decide_eq_false gc;have gcn:decide (0<el)=true:=decide_eq_true (by omega)
        cases bb <;> cases ob
        all_goals
         as_aux_lemma =>
          go_wp2_with fail
          go_meet
          case rel=>exact⟨by first|(rw[ga',gcd];rfl)|(rw[ga',gcd,gcn];rfl),rfl⟩
      ·have gb':(0:Int)<(bl:Int):=by omega
       have gbd:=decide_eq_false gb
       cases bb
       ·as_aux_lemma =>
         go_wp2_with fail
         go_meet
         case rel=>exact⟨by rw[ga',gbd];rfl,rfl⟩
       ·by_cases gc:el=0
        ·subst gc
         cases ob
         all_goals
          as_aux_lemma =>
           go_wp2_with fail
           go_meet
           case rel=>exact⟨by rw[ga'];rfl,rfl⟩
        ·have gc':(0:Int)<(el:Int):=by omega
         have gcd:=decide_eq_false gc;have gcn:decide (0<el)=true:=decide_eq_true (by omega)
         cases ob
         all_goals
          as_aux_lemma =>
           go_wp2_with fail
           go_meet
           case rel=>exact⟨by first|(rw[ga',gcd];rfl)|(rw[ga',gcd,gcn];rfl),rfl⟩
     ·have ga':=neb ga;have ga2:(kv != (ks.length:Int))=true:=by rw[bne,ga'];rfl
      as_aux_lemma =>
       go_wp2_with fail
       go_meet
       case rel=>exact⟨by rw[ga'];rfl,rfl⟩
    case rest =>
     obtain⟨rfl,hwc⟩:=hcut;obtain rfl:=hwc.symm;have HA':=HA.out _ _ _ rfl rfl rfl
     have HKV:Hid (((kv==(ks.length:Int))&&(bb||decide (bl=0))&&(ob||decide (el=0)))=true→kidsS k ks.length=(ks.length:Int)):=fun h=>by
      rw[Bool.and_eq_true,Bool.and_eq_true]at h;rw[HKE.out];simpa using h.1.1
     generalize ((kv==(ks.length:Int))&&(bb||decide (bl=0))&&(ob||decide (el=0)))=abc at *
     have HR2:Hid _:=HA';clear HA HA'
     cases abc
     ·have hr:R=none:=HR2.out;subst hr
      as_aux_lemma =>
       go_wp2_with fail
       go_ret;exact CnP.no oc rfl rfl hCc
     ·have hkv:=HKV.out rfl;have HKV':Hid _:=hkv;clear HKV hkv;have x0:=hBc.cell 0 _ rfl;go_upto_if 80 with fail
      go_cut [8] from 80 (fun _ we=>ns=true∧Later W1 we)
      case first =>
       have hN1:=hNm W1 hLc;have x2:=hBc.cell 2 _ rfl;have x3:=hBc.cell 3 _ rfl;have x4:=hBc.cell 4 _ rfl;have xlt:=hBc.lt;have hbt:=buildTy
       have HCo:Hid (∀ w',Later W1 w'→Cn K w' (l - 1)∧OnlyK K w w'):=fun w' ll=>⟨hCc.later ll,oc.trans (OnlyK.of_later ll)⟩
       clear h1 hE hb2 hb3 HT' hNm HKV' hBc oc hCc;by_cases k0:k=0
       ·subst k0;have ens:ns=(nm&&tb):=HNS.out
        cases nm
        ·obtain rfl:ns=false:=ens;have hr:R=none:=HR2.out;subst hr
         as_aux_lemma =>
          go_wp2_with (go_at_call 98;refine hN1.mono ?_;rintro e w1 ⟨rfl,l1⟩)
          go_ret;exact CnP.no (HCo.out _ l1).2 rfl rfl (HCo.out _ l1).1
        ·cases tb
         ·obtain rfl:ns=false:=ens;have hr:R=none:=HR2.out;subst hr
          as_aux_lemma =>
           go_wp2_with (first|(go_at_call 98;refine hN1.mono ?_;rintro e w1 ⟨rfl,l1⟩;obtain⟨hc1,_⟩:=bcell l1)|(go_at_call 99;refine (hT _).mono ?_;rintro e w2 ⟨rfl,l2⟩))
           go_ret;exact CnP.no (HCo.out _ (l1.trans l2)).2 rfl rfl (HCo.out _ (l1.trans l2)).1
         ·obtain rfl:ns=true:=ens
          as_aux_lemma =>
           go_wp2_with (first|(go_at_call 98;refine hN1.mono ?_;rintro e w1 ⟨rfl,l1⟩;obtain⟨hc1,_⟩:=bcell l1)|(go_at_call 99;refine (hT _).mono ?_;rintro e w2 ⟨rfl,l2⟩))
           go_meet
           case rel=>exact⟨trivial,l1.trans l2⟩
       ·have k0':=neb k0;have ens:Hid (ns=(decide (nlen=0)&&((tk==0)&&(tn==0)))):=HNS.out.trans (if_neg k0);clear hT hN1;by_cases z:nlen=0
        ·subst z;by_cases t0:tk=0
         ·subst t0;by_cases t1:tn=0
          ·subst t1;obtain rfl:ns=true:=ens.out;clear ens
           as_aux_lemma =>
            go_wp2_with fail
            go_meet
            case rel=>exact⟨trivial,Later.refl _⟩
          ·obtain rfl:ns=false:=by rw[ens.out,neb t1];rfl
           clear ens;have hr:R=none:=HR2.out;subst hr
           as_aux_lemma =>
            go_wp2_with fail
            go_ret;exact CnP.no (HCo.out _ (Later.refl _)).2 rfl rfl (HCo.out _ (Later.refl _)).1
         ·obtain rfl:ns=false:=by rw[ens.out,neb t0];rfl
          clear ens;have hr:R=none:=HR2.out;subst hr
          as_aux_lemma =>
           go_wp2_with fail
           go_ret;exact CnP.no (HCo.out _ (Later.refl _)).2 rfl rfl (HCo.out _ (Later.refl _)).1
        ·have z':(0:Int)<(nlen:Int):=by omega
         obtain rfl:ns=false:=by rw[ens.out,decide_eq_false z];rfl
         clear ens;have hr:R=none:=HR2.out;subst hr
         as_aux_lemma =>
          go_wp2_with fail
          go_ret;exact CnP.no (HCo.out _ (Later.refl _)).2 rfl rfl (HCo.out _ (Later.refl _)).1
      case rest =>
       obtain⟨rfl,le⟩:=hcut;have hCe:=hCc.later le;have hBe:=hBc.later le;have hLe:=hLc.trans le;have oe:=oc.trans (OnlyK.of_later le);have HR3:Hid (R=if headB k ks=false then none else TT):=HR2.out;clear hCc hBc hLc oc le HR2 HNS hNm hT;go_upto_region 32 with fail
       go_cut [125] from 102 (fun s125 we=>s125=.bool (!(headB k ks))∧Later wc we)
       case first =>
        have y0:=hBe.cell 0 _ rfl;have y5:=hBe.cell 5 _ rfl;have ylt:=hBe.lt;clear hE hb2 hb3 HT' HR3 hCe oe hBe;by_cases k1:k=1
        ·subst k1;have hkp:0<ks.length:=by have:=HKV'.out;have e:kidsS 1 ks.length=2:=rfl;omega
         have hkp':(0:Int)<(ks.length:Int):=by omega
         obtain⟨g,off,u0,u1,rfl,hgs,c0,c1,c2,c3,c4,c5,r0,r1⟩:=Ex.elem (RdL.later hLe h1) 0 hkp;rw[Nat.zero_mul,Nat.add_zero]at c0 c1 c2 c3 c4 c5;have HH:Hid (headB 1 ks=leftB ks[0].kind):=headB_1 hkp;have hle:=fun w'=>sleft_any ks[0].kind ks[0].n ks[0].tk ks[0].tn u0 u1 w';clear r0 r1 h1
         generalize leftB ks[0].kind=lb at *
         generalize ks[0].kind=e_k at *
         generalize ks[0].n=e_n at *
         generalize ks[0].tk=e_tk at *
         generalize ks[0].tn=e_tn at *
         cases lb
         all_goals
          as_aux_lemma =>
           go_wp2_with (go_at_call 131;refine (hle _).mono ?_;rintro e w1 ⟨rfl,l1⟩;obtain⟨hc1,_⟩:=bcell l1;have hz1:=hLe.size)
           go_meet
           case rel=>exact⟨by rw[HH.out];rfl,l1⟩
        ·have k1':=neb k1;by_cases k7:k=7
         ·subst k7;have hkp:0<ks.length:=by have:=HKV'.out;have e:kidsS 7 ks.length=1:=rfl;omega
          have hkp':(0:Int)<(ks.length:Int):=by omega
          obtain⟨g,off,u0,u1,rfl,hgs,c0,c1,c2,c3,c4,c5,r0,r1⟩:=Ex.elem (RdL.later hLe h1) 0 hkp;rw[Nat.zero_mul,Nat.add_zero]at c0;have HH:Hid (headB 7 ks=(ks[0].kind==6)):=headB_7 hkp;clear r0 r1 h1 c1 c2 c3 c4 c5
          generalize ks[0].kind=e_k at *
          by_cases k6:e_k=6
          ·subst k6
           as_aux_lemma =>
            go_wp2_with fail
            go_meet
            case rel=>exact⟨by rw[HH.out];rfl,Later.refl _⟩
          ·have k6':=neb k6;have k6'':(e_k != 6)=true:=by rw[bne,k6'];rfl
           as_aux_lemma =>
            go_wp2_with fail
            go_meet
            case rel=>exact⟨by rw[HH.out,k6'];rfl,Later.refl _⟩
         ·have k7':=neb k7;have HH:Hid (headB k ks=true):=headB_o _ k1 k7;clear k1 k7
          as_aux_lemma =>
           go_wp2_with fail
           go_meet
           case rel=>exact⟨by rw[HH.out];rfl,Later.refl _⟩
       case rest =>
        obtain⟨rfl,lf⟩:=hcut;have hCf:=hCe.later lf;have hBf:=hBe.later lf;have of:=oe.trans (OnlyK.of_later lf);clear hCe hBe oe lf HKV' hLe
        generalize headB k ks=hb at *
        cases hb
        ·have hr:R=none:=HR3.out;subst hr
         as_aux_lemma =>
          go_wp2_with fail
          go_ret;exact CnP.no of rfl rfl hCf
        ·have hr:R=TT:=HR3.out;subst hr;clear HR3;have HR0:Hid (Ex.runs s (d+1) (l - 1) ks=none→R=none):=HT'.r0;have HR1:Hid (∀ l1,Ex.runs s (d+1) (l - 1) ks=some l1→Hid (St.runs s (d+1) l1 x.body=none→R=none)∧Hid (∀ l2,St.runs s (d+1) l1 x.body=some l2→0≤l2∧l2≤400∧R=St.runs s (d+1) l2 x.els)):=HT'.r1;clear HT';go_wp2_with fail
         go_loopw [12] (fun i wr=>∃ (j:Nat) (q:Int),i=.int .i64 (j:Int)∧j≤ks.length∧OnlyK K w wr∧Cn K wr q∧0≤q∧q≤400∧Hid (Ex.soFar s (d+1) (l - 1) ks j q)∧Bx w.heap.size wr [.int .i64 k,.int .i64 n,.int .i64 tk,.int .i64 tn,.slice a0 nlen p0,.slice a1 ks.length p1,.slice a2 bl p2,.slice a3 el p3]) (fun i _=>ks.length - (intOf i).toNat)
         case atStart=>exact⟨0,l - 1,rfl,Nat.zero_le _,of,hCf,by omega,by omega,Ex.soFar_start _ _ _ _,hBf⟩
         case round =>
          obtain⟨j,q,rfl,hj,oR,hCr,hq0,hq1,HS,hBr⟩:=hrel;have y5:=hBr.cell 5 _ rfl;have y6:=hBr.cell 6 _ rfl;have y7:=hBr.cell 7 _ rfl;have hLr:=zbf hL oR hK;by_cases hlt:j<ks.length
          ·obtain⟨g,off,u0,u1,rfl,hgs,c0,c1,c2,c3,c4,c5,r0,r1⟩:=Ex.elem h1 j hlt;have i1:(j:Int)<(ks.length:Int):=by omega
           have c0:wr.cell? ⟨g,off+j*6,none⟩=some (.int .i64 ks[j].kind):=by rw[Below.cell hLr (p:=⟨g,off+j*6,none⟩) hgs];exact c0
           have c1:wr.cell? ⟨g,off+j*6+1,none⟩=some (.int .i64 ks[j].n):=by rw[Below.cell hLr (p:=⟨g,off+j*6+1,none⟩) hgs];exact c1
           have c2:wr.cell? ⟨g,off+j*6+2,none⟩=some (.int .i64 ks[j].tk):=by rw[Below.cell hLr (p:=⟨g,off+j*6+2,none⟩) hgs];exact c2
           have c3:wr.cell? ⟨g,off+j*6+3,none⟩=some (.int .i64 ks[j].tn):=by rw[Below.cell hLr (p:=⟨g,off+j*6+3,none⟩) hgs];exact c3
           have c4:wr.cell? ⟨g,off+j*6+4,none⟩=some u0:=by rw[Below.cell hLr (p:=⟨g,off+j*6+4,none⟩) hgs];exact c4
           have c5:wr.cell? ⟨g,off+j*6+5,none⟩=some u1:=by rw[Below.cell hLr (p:=⟨g,off+j*6+5,none⟩) hgs];exact c5
           have hE1:=hE j hlt u0 u1 q wr r0 r1 hLr hCr hq0 hq1 hd2
           have HN:Hid (∀ l',Ex.run s (d+1) q ks[j]=some l'→Ex.soFar s (d+1) (l - 1) ks (j+1) l'∧0≤l'∧l'<q):=fun l' hr=>⟨Ex.soFar_next HS.out hlt hr,Ex.run_le s _ _ _ _ hr⟩
           have HB:Hid (Ex.run s (d+1) q ks[j]=none→R=none):=fun hr=>HR0.out (Ex.soFar_bad HS.out hlt hr);clear r0 r1 h1 HS hE hb2 hb3 HR1 HR0 y6 y7
           generalize Ex.run s (d+1) q ks[j]=RR at *
           generalize ks[j].kind=z_kind at *
           generalize ks[j].n=z_n at *
           generalize ks[j].tk=z_tk at *
           generalize ks[j].tn=z_tn at *
           go_wp2_with fail
           refine hE1.mono ?_;rintro e w1 ⟨o1,hm⟩;have o:=oR.trans o1;have hB1:=hBr.only o1 hne
           cases RR with
           | none =>
            obtain⟨rfl,z',hC1⟩:=hm;have hb:=HB.out rfl;subst hb;go_wp2_with fail
            go_ret;exact CnP.no o rfl rfl hC1
           | some l' =>
            obtain⟨rfl,hC1⟩:=hm;obtain⟨n1,n2,n3⟩:=HN.out l' rfl;have HN1:Hid _:=n1;clear n1 HN HB hE1;go_wp2_with fail
            go_roundw
            case rel=>exact⟨j+1,l',by go_num,by omega,o,hC1,by omega,by omega,HN1,hB1⟩
            case measure=>simp[intOf];omega
          ·have i1:¬ (j:Int)<(ks.length:Int):=by omega
           have i2:decide ((j:Int)<(ks.length:Int))=false:=decide_eq_false i1;have hjj:j=ks.length:=by omega
           subst hjj;obtain⟨hA,hB⟩:=HR1.out q (Ex.soFar_done HS.out);have hI2:=hb2 q wr hLr hCr hq0 hq1 hd2;clear h1 HS hE HR1 HR0 hb2
           generalize St.runs s (d+1) q x.body=R2 at *
           go_wp2_with fail
           refine hI2.mono ?_;rintro e w1 ⟨o1,hm⟩;have oo:=oR.trans o1;have hL1':=zbf hLr o1 hK;have hB1:=hBr.only o1 hne;have v7:=hB1.cell 7 _ rfl
           cases R2 with
           | none =>
            obtain⟨rfl,z',hC1⟩:=hm;have hr:=hA.out rfl;clear hB hA;subst hr;go_wp2_with fail
            go_ret;exact CnP.no oo rfl rfl hC1
           | some l2 =>
            obtain⟨rfl,hC1⟩:=hm;obtain⟨m3,m4,hr⟩:=hB.out l2 rfl;have hI3:=hb3 l2 w1 hL1' hC1 m3 m4 hd2;rw[←hr]at hI3;clear hA hB hr hb3;go_wp2_with fail
            refine hI3.mono ?_;rintro e w2 ⟨o2,hm2⟩;have oo2:=oo.trans o2
            cases R with
            | none =>
             obtain⟨rfl,z',hC2⟩:=hm2;go_wp2_with fail
             go_ret;exact CnP.no oo2 rfl rfl hC2
            | some l3 =>
             obtain⟨rfl,hC2⟩:=hm2;go_wp2_with fail
             go_ret;exact CnP.yes oo2 rfl rfl hC2
end Go.Proofs.YtgholpilmdebmaaGreatDoor
