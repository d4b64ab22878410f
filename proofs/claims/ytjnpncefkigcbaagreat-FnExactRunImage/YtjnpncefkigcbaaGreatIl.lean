import Derived.Test.YtjnpncefkigcbaaGreatIk
set_option maxHeartbeats 100000000
set_option maxRecDepth 100000
namespace Go.Proofs.YtjnpncefkigcbaaGreat
open Go.RowKit Go.Lib Go.Maps
theorem lalloc_any {C:Mx}(hC:MxI C) {w:World}{s:Vm}{q:Mq}{iv ov:Value}(h:Al C w s q iv ov) (hs:SafeAt C.x s.fn ((s.pc:Int) - 1)) (hpc:q.pc=(s.pc:Int) - 1) (hmv:s.moves≤999990) (hev:q.ev≤1000000) {hd:Int}{n:Nat}(hn:n≤200) :
  Calls Tryz.prog 81 #[.pointer (some ⟨C.K,0,none⟩),.int .i64 hd,.int .i64 (n:Int)] w (LaQ C w s q hd n iv ov):=by
 have HEv:Hid (Calls Tryz.prog 121 #[.pointer (some ⟨C.K,0,none⟩)] w (MQ C w (.returned (.int .i64 s.say)) s { q with ev:=q.ev+1 } iv ov)):=by
  have:=levent_any hC h.mv hev;rw[←h.orc]at this;exact this
 have HA1:Hid (∀ w1,Mv C w1 s { q with ev:=q.ev+1 } iv ov→Al C w1 s.next { q with ev:=q.ev+1 } iv ov):=fun w1 m=>⟨m.next,h.ag,h.iv.next,h.en,h.cd,by show s.orc.tail=_;rw[h.orc,List.tail_drop]⟩
 have HCo:Hid (∀ wx t (q':Mq),Al C wx t q' iv ov→SafeAt C.x t.fn ((t.pc:Int) - 1)→q'.pc=(t.pc:Int) - 1→t.moves≤1000000→Calls Tryz.prog 122 #[.pointer (some ⟨C.K,0,none⟩)] wx fun n w'=>n=unitE∧OnlyL C wx w'∧((t.coll C.x C.H=none∧FinM C t.moved 7 0 iv ov w')∨∃ u W,t.coll C.x C.H=some u∧Al C w' u { q' with W:=W } iv ov)):=fun wx t q' a b c d=>a.coll hC b c d
 have HR1:Hid (s.say=1→(s.next.coll C.x C.H=none→s.rdy C.x C.H n=.fin 7 0 s.next.moved)∧(∀ t,s.next.coll C.x C.H=some t→s.rdy C.x C.H n=t.rdy2 C.x C.H n)):=fun z=>⟨fun e=>by unfold Vm.rdy;rw[if_pos z,e],fun t e=>by unfold Vm.rdy;rw[if_pos z,e]⟩
 have HR2:Hid (¬ s.say=1→s.rdy C.x C.H n=s.next.rdy2 C.x C.H n):=fun z=>by unfold Vm.rdy;rw[if_neg z]
 have HCC:Hid (∀ t u,Iv C.x C.H t→SafeAt C.x t.fn ((t.pc:Int) - 1)→t.coll C.x C.H=some u→u.fn=t.fn∧u.pc=t.pc∧u.moves=t.moves+1):=fun t u i b e=>by
  obtain⟨_,a1,a2,a3,_⟩:=coll_orc hC.xi i b e;exact⟨a1,a2,a3⟩
 have HS:Hid (SafeAt C.x s.next.fn ((s.next.pc:Int) - 1)∧q.pc=(s.next.pc:Int) - 1∧s.next.moves≤999990∧Iv C.x C.H s.next):=⟨hs,hpc,hmv,h.iv.next⟩
 have HF:Hid (∀ a c t w',s.rdy C.x C.H n=.fin a c t→OnlyL C w w'→FinM C t a c iv ov w'→LaQ C w s q hd n iv ov (.returned (.int .i64 0)) w'):=fun a c t w' e o f=>by unfold LaQ;rw[e];exact⟨o,rfl,f⟩
 have HG:Hid (∀ t w' W,s.rdy C.x C.H n=.go t→OnlyL C w w'→Mv C w' (t.put0 hd n) { q with W:=W,ev:=q.ev+1 } iv ov→AgM (t.put0 hd n) W→t.orc=C.orc.drop (q.ev+1)→t.room C.H n=true→LaQ C w s q hd n iv ov (.returned (.int .i64 (t.free:Int))) w'):=fun t w' W e o m a b c=>by unfold LaQ;rw[e];exact⟨o,rfl,W,m,a,b,c⟩
 generalize LaQ C w s q hd n iv ov=Q at *
 generalize s.rdy C.x C.H n=RD at *
 clear h hs hpc hmv hev;go_enter Tryz.func81,Tryz.ntmps81;go_wp2_with fail
 refine HEv.out.mono ?_;rintro n1 w1 ⟨rfl,m1,o1⟩;go_upto_if 11 with fail
 go_cut [6] from 7 (fun s6 wx=>s6=.int .i64 0∧Hid (La1 C w q iv ov RD n wx))
 case first =>
  by_cases hsay:s.say=1
  ·have hr1:=HR1.out hsay;have hye:(s.say==1)=true:=by simp[hsay]
   go_wp2_with fail
   refine (HCo.out w1 _ _ (HA1.out w1 m1) HS.out.1 HS.out.2.1 (by have:=HS.out.2.2.1;omega)).mono ?_;rintro n2 w2 ⟨rfl,o2,hc⟩
   have HX:Hid (La1 C w q iv ov RD n w2):=by
    refine⟨o1.trans o2,?_⟩;rcases hc with ⟨e,f⟩|⟨u,W,e,a⟩
    ·exact .inr ⟨_,hr1.1 e,f⟩
    ·have hr1:=hr1.2 u e;obtain⟨a1,a2,a3⟩:=HCC.out _ _ HS.out.2.2.2 HS.out.1 e;exact .inl ⟨u,W,a,by rw[a1,a2];exact HS.out.1,by rw[a2];exact HS.out.2.1,by have:=HS.out.2.2.1;omega,hr1⟩
   clear HEv HA1 HCo HR1 HR2 HCC HS HF HG m1 o1 o2 hc hr1;unfold unitE;go_wp2_with fail
   go_meet
   case rel=>exact⟨rfl,HX⟩
  ·have hr2:=HR2.out hsay;have hne:(s.say==1)=false:=by simp[hsay]
   have HX:Hid (La1 C w q iv ov RD n w1):=⟨o1,.inl ⟨s.next,q.W,HA1.out w1 m1,HS.out.1,HS.out.2.1,by have:=HS.out.2.2.1;omega,hr2⟩⟩
   clear HEv HA1 HCo HR1 HR2 HCC HS HF HG m1 o1 hr2;go_wp2_with fail
   go_meet
   case rel=>exact⟨rfl,HX⟩
 case rest =>
  obtain⟨rfl,HX1⟩:=hcut;clear HEv HA1 HR1 HR2 HS m1 o1
  have HB:Hid (∀ t,Iv C.x C.H t→(t.free:Int)≤30000∧(t.used:Int)≤30000∧(C.H:Int)≤4000∧12000≤t.free∧(t.room C.H n=true→t.free+(1+n)≤C.N)):=fun t i=>by
   have:=i.fe;have:=i.u;have:=i.h4;have:=hC.hN;have:=i.frb;refine⟨by omega,by omega,by omega,by omega,fun r=>?_⟩;unfold Vm.room at r;have:=of_decide_eq_true r;omega
  have HRm:Hid (∀ t:Vm,t.room C.H n=true↔t.free+1+n≤t.used+C.H):=fun t=>by
   unfold Vm.room;rw[decide_eq_true_iff];omega
  have HDead:Hid (∀ wx,OnlyL C w wx→(∃ t,RD=.fin 7 0 t∧FinM C t 7 0 iv ov wx)→∀ w',Later wx w'→Q (.returned (.int .i64 0)) w'):=fun wx o hd w' l=>by
   obtain⟨t,e,f⟩:=hd;exact HF.out 7 0 t w' e (o.trans (OnlyL.of_later l)) (f.kept l)
  have HD22:Hid (∀ wx,(∃ t,RD=.fin 7 0 t∧FinM C t 7 0 iv ov wx)→wx.cell? ⟨C.K,22,none⟩=some (.int .i64 7)):=fun wx hd=>by
   obtain⟨t,e,s',q',m,e7,_⟩:=hd;rw[m.c22.1,e7]
  have ol1:=HX1.out.ol;rcases HX1.out.al with ⟨t,W,ha,hsf,hqp,hm9,hrd⟩|hdd
  ·obtain⟨d22,_⟩:=ha.mv.c22;have d22':wc.cell? ⟨C.K,22,none⟩=some (.int .i64 0):=by rw[d22];exact congrArg (fun z=>some (Value.int .i64 z)) ha.en
   obtain⟨d7,_⟩:=ha.mv.c7;obtain⟨d6,_⟩:=ha.mv.c6;obtain⟨d5,_⟩:=ha.mv.c5;obtain⟨b1,b2,b3,b4,b5⟩:=HB.out t ha.iv;have hrm:=HRm.out t
   obtain⟨f1,hf1⟩:∃ f1,f1=t.free+1:=⟨_,rfl⟩
   obtain⟨f2,hf2⟩:∃ f2,f2=t.free+1+n:=⟨_,rfl⟩
   obtain⟨uh,huh⟩:∃ uh,uh=t.used+C.H:=⟨_,rfl⟩
   have k1:(t.free:Int)+1=(f1:Int):=by omega
   have k2:(f1:Int)+(n:Int)=(f2:Int):=by omega
   have k3:(t.used:Int)+(C.H:Int)=(uh:Int):=by omega
   have k4:(f1:Int)≤40000:=by omega
   have k5:(f2:Int)≤40000:=by omega
   have k6:(uh:Int)≤40000:=by omega
   have hrm2:Hid (t.room C.H n=true↔f2≤uh):=by show _↔_;rw[hf2,huh];exact hrm
   have HAl:Hid (Al C wc t { q with W:=W,ev:=q.ev+1 } iv ov∧SafeAt C.x t.fn ((t.pc:Int) - 1)∧q.pc=(t.pc:Int) - 1∧t.moves≤999999∧RD=t.rdy2 C.x C.H n):=⟨ha,hsf,hqp,hm9,hrd⟩
   have OL1:Hid (OnlyL C w wc):=ol1;clear HX1 ha hsf hqp hm9 hrd d22 b4 b5 hrm hf1 hf2 huh ol1;go_wp2_with fail
   go_quiet (fail)
   go_upto_if 37 with fail
   go_cut [6] from 7 (fun s6 wx=>s6=.int .i64 0∧Hid (La2 C w q iv ov RD n wx))
   case first =>
    by_cases hr:f2≤uh
    ·have i1:¬ ((uh:Int)<(f2:Int)):=by omega
     have i2:decide ((uh:Int)<(f2:Int))=false:=decide_eq_false i1;have hrt:=hrm2.out.2 hr
     have HX:Hid (∀ w',Later wc w'→La2 C w q iv ov RD n w'):=fun w' l=>⟨OL1.out.trans (OnlyL.of_later l),.inl ⟨t,W,HAl.out.1.kept l,by rw[HAl.out.2.2.2.2];unfold Vm.rdy2;rw[if_pos hrt,if_pos hrt]⟩⟩
     clear HAl HCo HCC HF HG HB HRm HDead HD22 hrm2 hrt OL1;go_wp2_with fail
     go_meet
     case rel=>exact⟨rfl,HX.out _ (Later.drewN' _ _)⟩
    ·have i1:(uh:Int)<(f2:Int):=by omega
     have i2:decide ((uh:Int)<(f2:Int))=true:=decide_eq_true i1;have hrt:¬ t.room C.H n=true:=fun z=>hr (hrm2.out.1 z);have hcl:Hid (∀ w',Later wc w'→Calls Tryz.prog 122 #[.pointer (some ⟨C.K,0,none⟩)] w' fun n w''=>n=unitE∧OnlyL C w' w''∧((t.coll C.x C.H=none∧FinM C t.moved 7 0 iv ov w'')∨∃ u W',t.coll C.x C.H=some u∧Al C w'' u { q with W:=W',ev:=q.ev+1 } iv ov)):=fun w' l=>HCo.out w' t _ (HAl.out.1.kept l) HAl.out.2.1 HAl.out.2.2.1 (by have:=HAl.out.2.2.2.1;omega);have hr0:t.rdy2 C.x C.H n=RD:=HAl.out.2.2.2.2.symm;have HN0:Hid (t.coll C.x C.H=none→RD=.fin 7 0 t.moved):=fun e=>by rw[←hr0];unfold Vm.rdy2;rw[if_neg hrt,e]
     have HN1:Hid (∀ u,t.coll C.x C.H=some u→RD=if u.room C.H n then .go u else .fin 6 0 u):=fun u e=>by rw[←hr0];unfold Vm.rdy2;rw[if_neg hrt,e]
     clear HAl HCo HCC HF HG HB HRm HDead HD22 hrm2 hrt hr0;go_wp2_with fail
     refine (hcl.out _ (Later.drewN' _ _)).mono ?_;rintro n2 w2 ⟨rfl,o2,hc⟩
     have HX:Hid (La2 C w q iv ov RD n w2):=by
      refine⟨OL1.out.trans ((OnlyL.of_later (Later.drewN' _ _)).trans o2),?_⟩;rcases hc with ⟨e,f⟩|⟨u,W',e,a⟩
      ·exact .inr ⟨_,HN0.out e,f⟩
      ·exact .inl ⟨u,W',a,HN1.out u e⟩
     clear hcl HN0 HN1 hc o2 OL1;unfold unitE;go_wp2_with fail
     go_meet
     case rel=>exact⟨rfl,HX⟩
   case rest =>
    obtain⟨rfl,HX2⟩:=hcut;clear HAl OL1 HCo HCC hrm2 d22' d7 d6 d5 k1 k2 k3 k4 k5 k6 b1 b2 b3;have ol2:=HX2.out.ol;rcases HX2.out.al with ⟨u,V,ha,hrd⟩|hdd
    ·obtain⟨d22,z22⟩:=ha.mv.c22;have d22':wc.cell? ⟨C.K,22,none⟩=some (.int .i64 0):=by rw[d22];exact congrArg (fun z=>some (Value.int .i64 z)) ha.en
     obtain⟨d7,z7⟩:=ha.mv.c7;obtain⟨d6,_⟩:=ha.mv.c6;obtain⟨d5,_⟩:=ha.mv.c5;obtain⟨b1,b2,b3,b4,b5⟩:=HB.out u ha.iv;have hrm:=HRm.out u
     obtain⟨f1,hf1⟩:∃ f1,f1=u.free+1:=⟨_,rfl⟩
     obtain⟨f2,hf2⟩:∃ f2,f2=u.free+1+n:=⟨_,rfl⟩
     obtain⟨uh,huh⟩:∃ uh,uh=u.used+C.H:=⟨_,rfl⟩
     have k1:(u.free:Int)+1=(f1:Int):=by omega
     have k2:(f1:Int)+(n:Int)=(f2:Int):=by omega
     have k3:(u.used:Int)+(C.H:Int)=(uh:Int):=by omega
     have k4:(f1:Int)≤40000:=by omega
     have k5:(f2:Int)≤40000:=by omega
     have k6:(uh:Int)≤40000:=by omega
     by_cases hr:f2≤uh
     ·have i1:¬ ((uh:Int)<(f2:Int)):=by omega
      have i2:decide ((uh:Int)<(f2:Int))=false:=decide_eq_false i1;have hrt:u.room C.H n=true:=hrm.2 (by omega);have hFN:=b5 hrt;have hrd':RD=.go u:=by rw[hrd,if_pos hrt]
      obtain⟨F,hF⟩:=hidx u.free;have hFF:F=u.free:=hF.out
      have HM1:Hid (∀ w',Later wc w'→Mv C ((w'.setCell ⟨C.SB,F,none⟩ (.bool true)).setCell ⟨C.WB,F,none⟩ (.int .i64 hd)) { u with pl:=fset u.pl F F } { q with W:=ptW V F hd 1,ev:=q.ev+1 } iv ov∧OnlyL C w ((w'.setCell ⟨C.SB,F,none⟩ (.bool true)).setCell ⟨C.WB,F,none⟩ (.int .i64 hd))):=fun w' l=>by
       have m1:=(ha.mv.kept l).setS hC (a:=F) (by omega) (v:=true) (s':={ u with pl:=fset u.pl F F }) rfl (fun b hb=>by
        show (fset u.pl F F b != 0)=_;unfold fset;split
        ·simp;omega
        ·rfl)
       have m2:=m1.setW hC (a:=F) (by omega) hd;refine⟨m2.convW rfl (fun b _=>?_),((ol2.trans (OnlyL.of_later l)).setS _ _).setW _ _⟩;show ptW V F hd 1 b=fset V F hd b;unfold ptW fset;by_cases e1:b=F
       ·rw[if_pos e1,if_pos e1]
       ·rw[if_neg e1,if_neg e1,if_neg (by omega)]
      have HSt:Hid (∀ wr j,1≤j→j≤n→Mv C wr { u with pl:=fset u.pl F F } { q with W:=ptW V F hd j,ev:=q.ev+1 } iv ov→Mv C (wr.setCell ⟨C.WB,F+j,none⟩ (.int .i64 0)) { u with pl:=fset u.pl F F } { q with W:=ptW V F hd (j+1),ev:=q.ev+1 } iv ov):=fun wr j h1 h2 m=>by
       have m2:=m.setW hC (a:=F+j) (by omega) 0;refine m2.convW rfl (fun b _=>?_);show ptW V F hd (j+1) b=fset (ptW V F hd j) (F+j) 0 b;unfold ptW fset;dsimp only;by_cases e1:b=F+j
       ·rw[if_pos e1,if_neg (by omega),if_pos (by omega)]
       ·rw[if_neg e1];by_cases e2:b=F
        ·rw[if_pos e2,if_pos e2]
        ·rw[if_neg e2,if_neg e2];by_cases e3:F≤b∧b<F+j
         ·rw[if_pos e3,if_pos (by omega)]
         ·rw[if_neg e3,if_neg (by omega)]
      have HEnd:Hid (∀ wr,Mv C wr { u with pl:=fset u.pl F F } { q with W:=ptW V F hd (n+1),ev:=q.ev+1 } iv ov→OnlyL C w wr→Q (.returned (.int .i64 (F:Int))) (wr.setCell ⟨C.K,7,none⟩ (.int .i64 (f2:Int)))):=fun wr m o=>by
       have m1:=m.setK hC (s':={ u with pl:=fset u.pl F F,free:=f2 }) (q':={ q with W:=ptW V F hd (n+1),ev:=q.ev+1 }) (o:=7) (v:=.int .i64 (f2:Int)) (by decide) (map_ext rfl) rfl rfl rfl rfl rfl;have m2:Mv C (wr.setCell ⟨C.K,7,none⟩ (.int .i64 (f2:Int))) (u.put0 hd n) { q with W:=ptW V F hd (n+1),ev:=q.ev+1 } iv ov:=m1.conv (t:=u.put0 hd n) (by unfold Vm.put0;rw[hf2,show u.free+1+n=u.free+(1+n) by omega]) (fun b _=>by show (fset u.pl u.free u.free b != 0)=(fset u.pl F F b != 0);rw[hFF]);have hag:=ha.ag.put0 hd n;rw[hFF];rw[hFF,Nat.add_comm n 1]at m2;exact HG.out u _ _ hrd' (o.setK _ _) m2 hag ha.orc hrt
      have HRd:Hid (∀ wr j,j≤n→Mv C wr { u with pl:=fset u.pl F F } { q with W:=ptW V F hd j,ev:=q.ev+1 } iv ov→wr.cell? ⟨C.K,3,none⟩=some (.slice (some ⟨C.WB,0,none⟩) C.N C.N)∧(∃ z,wr.cell? ⟨C.WB,F+j,none⟩=some z)∧wr.frozen? ⟨C.WB,F+j,none⟩=false):=fun wr j hj m=>by
       have:=m.word (a:=F+j) (by omega);exact⟨m.c3.1,⟨_,this.1⟩,this.2⟩
      have HR7:Hid (∀ wr W',Mv C wr { u with pl:=fset u.pl F F } { q with W:=W',ev:=q.ev+1 } iv ov→(∃ z,wr.cell? ⟨C.K,7,none⟩=some z)∧wr.frozen? ⟨C.K,7,none⟩=false):=fun wr W' m=>⟨⟨_,m.c7.1⟩,m.c7.2⟩
      obtain⟨d3,_⟩:=ha.mv.c3;obtain⟨d4,_⟩:=ha.mv.c4;obtain⟨dm,zm⟩:=ha.mv.mark (a:=F) (by omega);obtain⟨dw,zw⟩:=ha.mv.word (a:=F) (by omega);rw[←hFF]at d7 k1;have k7:(F:Int)<(C.N:Int):=by omega
      have k8:(F:Int)≤30000:=by omega
      have HFN:Hid (F+(1+n)≤C.N):=by show _≤_;omega
      have e1:=hC.d1;have e2:=hC.d2;have e4:=hC.d4;clear HX2 ha HF HG HB HRm HDead HD22 ol2 hrd hrd' hrm hrt hFN b1 b2 b3 b4 b5 hf1 hf2 huh d22 hFF hF;go_wp2_with fail
      go_quiet (fail)
      go_wp2_with fail
      go_loopw [8] (fun i wr=>∃ j:Nat,i=.int .i64 (j:Int)∧1≤j∧j≤n+1∧Hid (Mv C wr { u with pl:=fset u.pl F F } { q with W:=ptW V F hd j,ev:=q.ev+1 } iv ov∧OnlyL C w wr)) (fun i _=>n+1 - (intOf i).toNat)
      case atStart=>exact⟨1,rfl,Nat.le_refl _,by omega,HM1.out _ (Later.drewN' _ _)⟩
      case round =>
       obtain⟨j,rfl,hj1,hj2,HJ⟩:=hrel;clear HM1 d22' d7 d6 d5 d3 d4 dm dw zm zw z22 z7;by_cases hlt:j≤n
       ·have i3:(j:Int)≤(n:Int):=by omega
        obtain⟨g3,⟨ub,gb⟩,zb⟩:=HRd.out wr j hlt HJ.out.1
        have M1:Hid (Mv C (wr.setCell ⟨C.WB,F+j,none⟩ (.int .i64 0)) { u with pl:=fset u.pl F F } { q with W:=ptW V F hd (j+1),ev:=q.ev+1 } iv ov∧OnlyL C w (wr.setCell ⟨C.WB,F+j,none⟩ (.int .i64 0))):=⟨HSt.out wr j hj1 hlt HJ.out.1,HJ.out.2.setW _ _⟩
        have hfn:=HFN.out
        obtain⟨fj,hfj⟩:∃ fj,fj=F+j:=⟨_,rfl⟩
        rw[←hfj]at M1 gb zb;have g1:(F:Int)+(j:Int)=(fj:Int):=by omega
        have g2:(fj:Int)<(C.N:Int):=by omega
        have g4:(fj:Int)≤40000:=by omega
        clear HJ HSt HEnd HRd HR7 HFN hfn hfj;go_wp2_with fail
        go_roundw
        case rel=>exact⟨j+1,by go_num,by omega,by omega,M1⟩
        case measure=>simp[intOf];omega
       ·obtain rfl:j=n+1:=by omega
        have i3:¬ (((n+1:Nat):Int)≤(n:Int)):=by omega
        have i4:decide (((n+1:Nat):Int)≤(n:Int))=false:=decide_eq_false i3;have HP:=HEnd.out wr HJ.out.1 HJ.out.2;obtain⟨⟨u7,g7⟩,z7⟩:=HR7.out wr _ HJ.out.1;clear HJ HSt HEnd HRd HR7 HFN
        generalize ((n+1:Nat):Int)=np at *
        go_wp2_with fail
        first|exact HP|(go_ret;exact HP)
     ·have i1:(uh:Int)<(f2:Int):=by omega
      have i2:decide ((uh:Int)<(f2:Int))=true:=decide_eq_true i1;have hrt:¬ u.room C.H n=true:=fun z=>by have:=hrm.1 z;omega
      have HSp:Hid (∀ w',Later wc w'→Calls Tryz.prog 23 #[.pointer (some ⟨C.K,0,none⟩),.int .i64 6,.int .i64 0] w' (MQ C w' unitE u (({ q with W:=V,ev:=q.ev+1 }:Mq).stop 6 0) iv ov)):=fun w' l=>lstop_any hC (ha.mv.kept l) 6 0
      have HP:Hid (∀ w' w'',Later wc w'→MQ C w' unitE u (({ q with W:=V,ev:=q.ev+1 }:Mq).stop 6 0) iv ov unitE w''→Q (.returned (.int .i64 0)) w''):=fun w' w'' l m=>by
       refine HF.out 6 0 u w'' (by rw[hrd,if_neg hrt]) ((ol2.trans (OnlyL.of_later l)).trans m.2.2) ⟨u,_,m.2.1,?_,?_,rfl,rfl,rfl,rfl⟩
       ·unfold Mq.stop;rw[if_pos ha.en]
       ·unfold Mq.stop;rw[if_pos ha.en]
      clear HX2 ha HF HG HB HRm HDead HD22 ol2 hrd hrm hrt b1 b2 b3 b4 b5 hf1 hf2 huh d22;go_wp2_with fail
      go_quiet (fail)
      go_wp2_with fail
      refine (HSp.out _ (Later.drewN' _ _)).mono ?_;rintro n2 w2 ⟨rfl,m2⟩;have HP2:=HP.out _ w2 (Later.drewN' _ _) ⟨rfl,m2⟩;clear HP HSp m2;unfold unitE;go_wp2_with fail
      first|exact HP2|(go_ret;exact HP2)
    ·have d22:=HD22.out wc hdd;have HP:Hid (∀ w',Later wc w'→Q (.returned (.int .i64 0)) w'):=HDead.out wc ol2 hdd;clear HX2 HF HG HB HRm HDead HD22 hdd ol2;go_wp2_with fail
     first|exact HP.out _ (Later.refl _)|(go_ret;exact HP.out _ (Later.refl _))
  ·have d22:=HD22.out wc hdd;have HP:Hid (∀ w',Later wc w'→Q (.returned (.int .i64 0)) w'):=HDead.out wc ol1 hdd;clear HX1 HCo HCC HF HG HB HRm HDead HD22 hdd ol1;go_wp2_with fail
   go_quiet (fail)
   go_wp2_with fail
   first|exact HP.out _ (Later.drewN' _ _)|(go_ret;exact HP.out _ (Later.drewN' _ _))
end Go.Proofs.YtjnpncefkigcbaaGreat
