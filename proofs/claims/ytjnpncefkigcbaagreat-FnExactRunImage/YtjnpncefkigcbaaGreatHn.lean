import Derived.Test.YtjnpncefkigcbaaGreatHm
import Derived.Deep.Cut
import Derived.Deep.CutRange
set_option maxHeartbeats 100000000
set_option maxRecDepth 100000
namespace Go.Proofs.YtjnpncefkigcbaaGreat
open Go.RowKit Go.Lib Go.Maps
def Vm.put0 (s:Vm) (h:Int) (n:Nat):Vm:={ s with W:=fun b=>if b=s.free then h else if s.free≤b∧b<s.free+(1+n) then 0 else s.W b,pl:=fset s.pl s.free s.free,free:=s.free+(1+n) }
def Vm.rdy2 (x:Im) (H:Nat) (s:Vm) (n:Nat):St :=
 if s.room H n then .go s else match s.coll x H with
  | none=>.fin 7 0 s.moved
  | some t=>if t.room H n then .go t else .fin 6 0 t
def Vm.rdy (x:Im) (H:Nat) (s:Vm) (n:Nat):St :=
 if s.say=1 then (match s.next.coll x H with
  | none=>.fin 7 0 s.next.moved
  | some t=>t.rdy2 x H n)
 else s.next.rdy2 x H n
theorem take2_rdy {x:Im}{H:Nat}{s:Vm}{h:Int}{n a:Nat}:s.take2 x H h n a=match s.rdy2 x H n with|.go t=>.go (t.put h n a)|.fin e c t=>.fin e c t:=by
 unfold Vm.take2 Vm.rdy2;split
 ·rfl
 ·cases s.coll x H with
  | none=>rfl
  | some t =>
   simp only;split <;> rfl
theorem take_rdy {x:Im}{H:Nat}{s:Vm}{h:Int}{n a:Nat}:s.take x H h n a=match s.rdy x H n with|.go t=>.go (t.put h n a)|.fin e c t=>.fin e c t:=by
 unfold Vm.take Vm.rdy;split
 ·cases s.next.coll x H with
  | none=>rfl
  | some t=>exact take2_rdy
 ·exact take2_rdy
def TakeQ (C:Cx) (w:World) (s:Vm) (h:Int) (n:Nat) (e:Nat) (cp iv ov:Value) (m:Ending) (w':World):Prop :=
 match s.rdy C.x C.H n with
 | .fin a c t=>PanQ C t ov a c m w'
 | .go t=>m=.returned (.int .i64 (t.free:Int))∧∃ rv',Pv C w' (t.put0 h n) e cp iv ov rv'∧OnlyM C w w'
structure TkI (C:Cx) (w:World) (e:Nat) (cp iv ov:Value) (t:Vm) (wx:World):Prop where
 pv:∃ rv,Pv C wx t e cp iv ov rv
 om:OnlyM C w wx
 iv:Iv C.x C.H t
 sf:SafeAt C.x t.fn ((t.pc:Int) - 1)
 pc:t.pc≤6000
theorem Cw.eqs {s t:Vm}(h:Cw s t):t.fn=s.fn∧t.pc=s.pc∧t.moves=s.moves+1:=by rw[h.eq];exact⟨rfl,rfl,rfl⟩
theorem itake_any {C:Cx}(hC:CxI C) (hMV:IMove C) {w:World}{s:Vm}{e:Nat}{cp iv ov rv:Value}(h:Pv C w s e cp iv ov rv) (hI:Iv C.x C.H s) (hs:SafeAt C.x s.fn ((s.pc:Int) - 1)) (hpc:s.pc≤6000) (hmv:s.moves≤999990) {hd:Int}{n:Nat}(hn:n≤200) :
  Calls Tryz.prog 135 #[.pointer (some ⟨C.P,0,none⟩),.int .i64 hd,.int .i64 (n:Int)] w (TakeQ C w s hd n e cp iv ov):=by
 have hN:=hC.hN;have hM:=hC.hM;have h4:=hC.h4;have h8:=hC.h8;have HSay:Hid (Calls Tryz.prog 141 #[.pointer (some ⟨C.P,0,none⟩)] w (SayQ C w s e cp iv ov)):=isay_any hC h
 have HT0:Hid (Iv C.x C.H s.next∧SafeAt C.x s.next.fn ((s.next.pc:Int) - 1)∧s.next.pc≤6000∧s.next.moves≤999990):=⟨hI.next,hs,hpc,hmv⟩
 have HCo:Hid (∀ wx t rvx,Pv C wx t e cp iv ov rvx→Iv C.x C.H t→SafeAt C.x t.fn ((t.pc:Int) - 1)→t.pc≤6000→t.moves≤1000000→Calls Tryz.prog 154 #[.pointer (some ⟨C.P,0,none⟩)] wx (CollQ C wx t e cp iv ov rvx)):=fun wx t rvx p a b c d=>icoll_any hC hMV p a b c d;have HRm:Hid (∀ wx t rvx b,Pv C wx t e cp iv ov rvx→Iv C.x C.H t→t.room C.H n=b→Calls Tryz.prog 155 #[.pointer (some ⟨C.P,0,none⟩),.int .i64 ((1+n:Nat):Int)] wx (DrQ (.returned (.bool b)) wx)):=fun wx t rvx b p i hb=>iroom_any hC p (by have:=i.fe;have:=i.u;omega) (by have:=i.u;omega) (by omega) hb;have HFin:Hid (∀ a c t m w',s.rdy C.x C.H n=.fin a c t→PanQ C t ov a c m w'→TakeQ C w s hd n e cp iv ov m w'):=fun a c t m w' hr p=>by unfold TakeQ;rw[hr];exact p
 have HGo:Hid (∀ t w' rv',s.rdy C.x C.H n=.go t→Pv C w' (t.put0 hd n) e cp iv ov rv'→OnlyM C w w'→TakeQ C w s hd n e cp iv ov (.returned (.int .i64 (t.free:Int))) w'):=fun t w' rv' hr p o=>by unfold TakeQ;rw[hr];exact⟨rfl,rv',p,o⟩
 have HR1:Hid (s.say=1→s.rdy C.x C.H n=match s.next.coll C.x C.H with|none=>.fin 7 0 s.next.moved|some t=>t.rdy2 C.x C.H n):=fun q=>by unfold Vm.rdy;rw[if_pos q]
 have HR2:Hid (¬ s.say=1→s.rdy C.x C.H n=s.next.rdy2 C.x C.H n):=fun q=>by unfold Vm.rdy;rw[if_neg q]
 have HNC:Hid (∀ t,s.next.coll C.x C.H=some t→Iv C.x C.H t∧t.fn=s.next.fn∧t.pc=s.next.pc∧t.moves=s.next.moves+1):=fun t ht=>by
  obtain⟨i,cw⟩:=HT0.out.1.coll hC.xi HT0.out.2.1 ht;exact⟨i,cw.eqs⟩
 generalize TakeQ C w s hd n e cp iv ov=Q at *
 generalize s.rdy C.x C.H n=RD at *
 obtain⟨m1,hm1⟩:∃ m1,m1=1+n:=⟨_,rfl⟩
 rw[←hm1]at HRm;have kn:(1:Int)+(n:Int)=(m1:Int):=by omega
 have kn2:(m1:Int)≤1000:=by omega
 have hm:Hid (m1=1+n):=hm1;clear hm1;clear h hI hs;go_enter Tryz.func135,Tryz.ntmps135;go_wp2_with fail
 refine HSay.out.mono ?_;rintro n1 w1 ⟨rfl,rv1,p1,o1⟩;go_upto_if 10 with fail
 go_cut [6] from 8 (fun s6 wx=>s6=.int .i64 0∧∃ t1,Hid (TkI C w e cp iv ov t1 wx∧t1.moves≤999991∧RD=t1.rdy2 C.x C.H n))
 case first =>
  by_cases hsay:s.say=1
  ·have hr1:=HR1.out hsay;have hye:(s.say==1)=true:=by simp[hsay]
   go_wp2_with fail
   refine (HCo.out _ _ _ p1 HT0.out.1 HT0.out.2.1 HT0.out.2.2.1 (by have:=HT0.out.2.2.2;omega)).mono ?_;rintro n2 w2 hq2;unfold CollQ at hq2
   cases hcl:s.next.coll C.x C.H with
   | none =>
    rw[hcl]at hq2 hr1;have HP:=HFin.out 7 0 _ n2 w2 hr1 hq2;obtain⟨rfl,_⟩:=hq2;clear HSay HT0 HCo HRm HFin HGo HR1 HR2 HNC p1 o1;unfold finP at HP ⊢;go_wp2_with fail
    exact⟨rfl,HP⟩
   | some t =>
    rw[hcl]at hq2 hr1;obtain⟨rfl,p2,o2⟩:=hq2;obtain⟨i2,e1,e2,e3⟩:=HNC.out t hcl
    have HI2:Hid (TkI C w e cp iv ov t w2∧t.moves≤999991∧RD=t.rdy2 C.x C.H n):=⟨⟨⟨_,p2⟩,o1.trans o2,i2,by rw[e1,e2];exact HT0.out.2.1,by rw[e2];exact HT0.out.2.2.1⟩,by have:=HT0.out.2.2.2;omega,hr1⟩
    clear HSay HT0 HCo HRm HFin HGo HR1 HR2 HNC p1 o1 p2 o2 i2 hr1;unfold unitE;go_wp2_with fail
    go_meet
    case rel=>exact⟨rfl,t,HI2⟩
  ·have hr2:=HR2.out hsay;have hne:(s.say==1)=false:=by simp[hsay]
   have HI2:Hid (TkI C w e cp iv ov s.next w1∧s.next.moves≤999991∧RD=s.next.rdy2 C.x C.H n):=⟨⟨⟨_,p1⟩,o1,HT0.out.1,HT0.out.2.1,HT0.out.2.2.1⟩,by have:=HT0.out.2.2.2;omega,hr2⟩
   clear HSay HT0 HCo HRm HFin HGo HR1 HR2 HNC p1 o1 hr2;go_wp2_with fail
   go_meet
   case rel=>exact⟨rfl,_,HI2⟩
 case rest =>
  obtain⟨rfl,t1,HI1⟩:=hcut;obtain⟨rv2,p2⟩:=HI1.out.1.pv;have hi1:=HI1.out.1.iv;have HNC1:Hid (∀ t,t1.coll C.x C.H=some t→Iv C.x C.H t):=fun t ht=>(hi1.coll hC.xi HI1.out.1.sf ht).1;clear HSay HT0 HR1 HR2 HNC p1 o1;go_wp2_with fail
  refine (HRm.out wc t1 rv2 _ p2 hi1 rfl).mono ?_;rintro n3 w3 ⟨rfl,hk3⟩;have l3:Later wc w3:=by obtain⟨j3,rfl⟩:=hk3;exact Later.drewN' _ j3
  clear hk3;have p3:=p2.kept l3;have o3:=HI1.out.1.om.trans (OnlyM.of_later (C:=C) l3);go_upto_if 17 with fail
  go_cut [6] from 8 (fun s6 wx=>s6=.int .i64 0∧∃ t2 rvx,Hid (Pv C wx t2 e cp iv ov rvx∧OnlyM C w wx∧Iv C.x C.H t2∧RD=if t2.room C.H n then .go t2 else .fin 6 0 t2))
  case first =>
   by_cases hrm:t1.room C.H n=true
   ·rw[hrm]
    have HI2:Hid (Pv C w3 t1 e cp iv ov rv2∧OnlyM C w w3∧Iv C.x C.H t1∧RD=if t1.room C.H n then .go t1 else .fin 6 0 t1):=⟨p3,o3,hi1,by rw[HI1.out.2.2];unfold Vm.rdy2;rw[if_pos hrm,if_pos hrm]⟩
    clear HCo HRm HFin HGo HNC1 HI1 p2 p3 o3 hi1;go_wp2_with fail
    go_meet
    case rel=>exact⟨rfl,t1,rv2,HI2⟩
   ·have hrf:t1.room C.H n=false:=by simpa using hrm
    rw[hrf];have hrd:RD=match t1.coll C.x C.H with|none=>.fin 7 0 t1.moved|some t=>if t.room C.H n then .go t else .fin 6 0 t:=by rw[HI1.out.2.2];unfold Vm.rdy2;rw[if_neg hrm]
    go_wp2_with fail
    refine (HCo.out _ _ _ p3 hi1 HI1.out.1.sf HI1.out.1.pc (by have:=HI1.out.2.1;omega)).mono ?_;rintro n4 w4 hq4;unfold CollQ at hq4
    cases hcl:t1.coll C.x C.H with
    | none =>
     rw[hcl]at hq4 hrd;have HP:=HFin.out 7 0 _ n4 w4 hrd hq4;obtain⟨rfl,_⟩:=hq4;clear HCo HRm HFin HGo HNC1 HI1 p2 p3 o3 hi1;unfold finP at HP ⊢;go_wp2_with fail
     exact⟨rfl,HP⟩
    | some t =>
     rw[hcl]at hq4 hrd;obtain⟨rfl,p4,o4⟩:=hq4
     have HI2:Hid (Pv C w4 t e cp iv ov rv2∧OnlyM C w w4∧Iv C.x C.H t∧RD=if t.room C.H n then .go t else .fin 6 0 t):=⟨p4,o3.trans o4,HNC1.out t hcl,hrd⟩
     clear HCo HRm HFin HGo HNC1 HI1 p2 p3 o3 hi1 p4 o4 hrd;unfold unitE;go_wp2_with fail
     go_meet
     case rel=>exact⟨rfl,t,rv2,HI2⟩
  case rest =>
   obtain⟨rfl,t2,rv3,HI2⟩:=hcut;have hi2:=HI2.out.2.2.1;clear HCo HNC1 HI1 p2 p3 o3 hi1;go_wp2_with fail
   refine (HRm.out wc t2 rv3 _ HI2.out.1 hi2 rfl).mono ?_;rintro n5 w5 ⟨rfl,hk5⟩;have l5:Later wc w5:=by obtain⟨j5,rfl⟩:=hk5;exact Later.drewN' _ j5
   clear hk5 HRm;by_cases hrm:t2.room C.H n=true
   ·rw[hrm];have hrd:RD=.go t2:=by rw[HI2.out.2.2.2,if_pos hrm]
    go_wp2_with fail
    refine (must_yes 6 0 w5).mono ?_;rintro n6 w6 ⟨rfl,l6⟩;have l56:=l5.trans l6;have p6:=HI2.out.1.kept l56;have o6:=HI2.out.2.1.trans (OnlyM.of_later (C:=C) l56);have hro:t2.free+(1+n)≤t2.used+C.H:=by unfold Vm.room at hrm;simpa using hrm
    have hu2:=hi2.u;have hfb:=hi2.frb;have hFN:t2.free+(1+n)≤C.N:=by omega
    have hmm:=hm.out
    obtain⟨G,hG⟩:∃ G,G=t2.free+m1:=⟨_,rfl⟩
    have HP7:Hid (Pv C (w6.setCell ⟨C.P,64,none⟩ (.int .i64 (G:Int))) { t2 with free:=G } e cp iv ov rv3):=p6.setP hC (by decide) (e':=e) (cp':=cp) (map_ext rfl) rfl rfl rfl rfl rfl;have HP8:Hid (∀ w',Later (w6.setCell ⟨C.P,64,none⟩ (.int .i64 (G:Int))) w'→Pv C (w'.setCells C.WB t2.free (List.replicate m1 (.int .i64 0))) { t2 with W:=fun a=>if t2.free≤a∧a<t2.free+m1 then 0 else t2.W a,free:=G } e cp iv ov rv3):=fun w' l=>by rw[repl_range];exact (HP7.out.kept l).setWs hC (by omega) (fun _=>0)
    have HCC:Hid (∀ w',Later (w6.setCell ⟨C.P,64,none⟩ (.int .i64 (G:Int))) w'→∀ j,j<m1→(w'.cell? ⟨C.WB,t2.free+j,none⟩).isSome=true∧w'.frozen? ⟨C.WB,t2.free+j,none⟩=false):=fun w' l j hj=>by
     have:=(HP7.out.kept l).word (a:=t2.free+j) (by omega);exact⟨by rw[this.1];rfl,this.2⟩
    have HZ:Hid (∀ w8,Pv C w8 { t2 with W:=fun a=>if t2.free≤a∧a<t2.free+m1 then 0 else t2.W a,free:=G } e cp iv ov rv3→OnlyM C w w8→Q (.returned (.int .i64 (t2.free:Int))) ((w8.setCell ⟨C.WB,t2.free,none⟩ (.int .i64 hd)).setCell ⟨C.PB,t2.free - 12000,none⟩ (.int .i64 (t2.free:Int)))):=fun w8 p o=>by
     refine HGo.out t2 _ rv3 hrd ?_ ((o.setW _ _).setL _ _);have q:=(p.setW hC (a:=t2.free) (by omega) hd).setL hC (a:=t2.free - 12000) (by omega) t2.free;refine q.conv (s':=t2.put0 hd n) (fun b=>?_) (fun b=>?_) (by unfold Vm.put0;rw[hG,hmm])
     ·show (if b=t2.free then hd else if t2.free≤b∧b<t2.free+(1+n) then 0 else t2.W b)=if b=t2.free then hd else (if t2.free≤b∧b<t2.free+m1 then 0 else t2.W b)
      rw[hmm]
     ·show fset t2.pl t2.free t2.free b=fset t2.pl (12000+(t2.free - 12000)) t2.free b;rw[show 12000+(t2.free - 12000)=t2.free by omega]
    have HD:Hid (∀ w',Later (w6.setCell ⟨C.P,64,none⟩ (.int .i64 (G:Int))) w'→w'.cell? ⟨C.P,9,none⟩=some (.slice (some ⟨C.WB,0,none⟩) C.N C.N)∧w'.cell? ⟨C.P,64,none⟩=some (.int .i64 (G:Int))):=fun w' l=>⟨(HP7.out.kept l).c9.1,(HP7.out.kept l).c64.1⟩
    have HD8:Hid (∀ w8,Pv C w8 { t2 with W:=fun a=>if t2.free≤a∧a<t2.free+m1 then 0 else t2.W a,free:=G } e cp iv ov rv3→(w8.cell? ⟨C.P,9,none⟩=some (.slice (some ⟨C.WB,0,none⟩) C.N C.N)∧w8.cell? ⟨C.P,64,none⟩=some (.int .i64 (G:Int)))∧w8.cell? ⟨C.P,65,none⟩=some (.slice (some ⟨C.PB,0,none⟩) C.M C.M)∧(∃ u,w8.cell? ⟨C.WB,t2.free,none⟩=some u)∧w8.frozen? ⟨C.WB,t2.free,none⟩=false∧(∃ u,w8.cell? ⟨C.PB,t2.free - 12000,none⟩=some u)∧w8.frozen? ⟨C.PB,t2.free - 12000,none⟩=false):=fun w8 p=>by
     have q1:=p.word (a:=t2.free) (by omega);have q2:=p.place hC (a:=t2.free) (by omega) (by omega);exact⟨⟨p.c9.1,p.c64.1⟩,p.c65.1,⟨_,q1.1⟩,q1.2,⟨_,q2.1⟩,q2.2⟩
    obtain⟨c64,z64⟩:=p6.c64;obtain⟨c9,_⟩:=p6.c9;have d1:=hC.d1;have d3:=hC.d3;have g1:(t2.free:Int)+(m1:Int)=(G:Int):=by omega
    have g2:(G:Int)≤(C.N:Int):=by omega
    have g3:t2.free≤G:=by omega
    have g4:G - t2.free=m1:=by omega
    have g5:¬ C.N=t2.free:=by omega
    have g6:0<m1:=by omega
    have g7:(G:Int)≤40000:=by omega
    have g8:(t2.free:Int) - 12000=((t2.free - 12000:Nat):Int):=by omega
    have g9:((t2.free - 12000:Nat):Int)<(C.M:Int):=by omega
    have g10:((t2.free - 12000:Nat):Int)≤40000:=by omega
    have g11:(t2.free:Int)≤40000:=by omega
    clear HGo HFin HI2 hro hu2 hfb hFN hmm hG p6 l5 l6 l56 hi2 hrd HP7 hN hM h4 h8
    generalize (fun a=>if t2.free≤a∧a<t2.free+m1 then 0 else t2.W a)=WW at *
    generalize t2.free - 12000=fo at *
    generalize t2.free=F at *
    unfold unitE;go_wp2_with fail
    go_region_held_law (fun w'=>w'.cell? ⟨C.P,9,none⟩=some (.slice (some ⟨C.WB,0,none⟩) C.N C.N)∧w'.cell? ⟨C.P,64,none⟩=some (.int .i64 (G:Int))) (first|exact HD.out _ (Later.drew _)|assumption) (first
     | (refine step_clearC rfl _ 26 rfl 3 Tryz.underlying26 (.int .i64 0) zero_int rfl rfl C.WB F m1 _ (by rfl) g6 (HCC.out _ (Later.drew _)) ?_;intro w8 hw8;have p8:=HP8.out _ (Later.drew _);rw[←hw8.out]at p8;obtain⟨d4,e65,⟨u1,e1⟩,e2,⟨u3,e3⟩,e4⟩:=HD8.out w8 p8))
    have o8:OnlyM C w w8:=by rw[hw8.out];exact ((o6.setP _ _).drew).setWs _ _
    have HZ8:=HZ.out w8 p8 o8;clear HD HD8 HCC HP8 HZ hw8 p8 o8 o6 c64 c9 z64;obtain⟨d49,d464⟩:=d4;have e3':=(World.cell?_setCell_far w8 ⟨C.WB,F,none⟩ ⟨C.PB,fo,none⟩ (.int .i64 hd) d3).trans e3;have e65':=(World.cell?_setCell_far w8 ⟨C.WB,F,none⟩ ⟨C.P,65,none⟩ (.int .i64 hd) (Ne.symm d1)).trans e65;go_wp2_with fail
    first|exact HZ8|(go_ret;exact HZ8)
   ·have hrf:t2.room C.H n=false:=by simpa using hrm
    rw[hrf];have hrd:RD=.fin 6 0 t2:=by rw[HI2.out.2.2.2,if_neg hrm]
    go_wp2_with fail
    refine (must_no 6 0 w5).mono ?_;rintro n6 w6 ⟨rfl,l6⟩;have HP:=HFin.out 6 0 t2 (finP 6 0) w6 hrd ⟨rfl,t2,e,cp,iv,rv3,HI2.out.1.kept (l5.trans l6),rfl,rfl,rfl,rfl⟩;clear HFin HGo HI2;unfold finP at HP ⊢;go_wp2_with fail
    exact⟨rfl,HP⟩
def LookQ (C:Cx) (w:World) (s:Vm) (ov:Value) (o:Option Value) (n:Ending) (w':World):Prop :=
 match o with
 | none=>PanQ C s ov 7 0 n w'
 | some v=>n=.returned v∧Later w w'
theorem ilen_any {C:Cx}(hC:CxI C) {w:World}{s:Vm}{e:Nat}{cp iv ov rv:Value}(h:Pv C w s e cp iv ov rv) (hI:Iv C.x C.H s) (z:Int) :
  Calls Tryz.prog 134 #[.pointer (some ⟨C.P,0,none⟩),.int .i64 z] w (LookQ C w s ov ((s.len C.H z).map (Value.int .i64))):=by
 have hN:=hC.hN
 have HPan:Hid (∀ w',Later w w'→PanQ C s ov 7 0 (finP 7 0) w'):=fun w' l=>⟨rfl,s,e,cp,iv,rv,h.kept l,rfl,rfl,rfl,rfl⟩
 unfold Vm.len;by_cases hz:z=0
 ·rw[if_pos hz];subst hz
  have HZ:LookQ C w s ov (Option.map (Value.int .i64) (some 0)) (.returned (.int .i64 0)) w:=⟨rfl,Later.refl _⟩
  generalize LookQ C w s ov (Option.map (Value.int .i64) (some 0))=Q at *
  clear h HPan;go_enter Tryz.func134,Tryz.ntmps134;go_wp2_with fail
  first|exact HZ|(go_ret;exact HZ)
 rw[if_neg hz];have hne:(z==0)=false:=by simp[hz]
 have HO:Hid (Calls Tryz.prog 152 #[.pointer (some ⟨C.P,0,none⟩),.int .i64 z] w (DrQ (.returned (.bool (s.obj C.H z))) w)):=iobj_b hC h hI.u rfl;by_cases ho:s.obj C.H z=true
 ·rw[ho]at HO ⊢;obtain⟨h12,hfr,hgd,_⟩:=hI.obj hC.xi ho;have hfe:=hI.fe;have hu:=hI.u
  obtain⟨k,rfl⟩:∃ k:Nat,z=(k:Int):=⟨z.toNat,by omega⟩
  simp only[Int.toNat_natCast]at hfr hgd ⊢;have HH:Hid (∀ w',Later w w'→Calls Tryz.prog 153 #[.pointer (some ⟨C.P,0,none⟩),.int .i64 (k:Int)] w' (DrQ (.returned (.tuple #[.int .i64 (s.W k % 8),.int .i64 (s.W k / 8)])) w')):=fun w' l=>ihead_any (h.kept l) (by omega) hgd.1 hgd.2.1;by_cases hm:s.W k % 8=0
  ·have hf:(true&&(s.W k % 8 != 0))=false:=by rw[hm];rfl
   rw[hf,if_neg (by simp)];have HZ:Hid (∀ w',Later w w'→LookQ C w s ov (Option.map (Value.int .i64) none) (finP 7 0) w'):=fun w' l=>HPan.out w' l
   generalize LookQ C w s ov (Option.map (Value.int .i64) none)=Q at *
   rw[hm]at HH;clear h HPan hI hgd hfr hm
   generalize s.W k / 8=sz at *
   go_enter Tryz.func134,Tryz.ntmps134;go_wp2_with fail
   refine HO.out.mono ?_;rintro n w1 ⟨rfl,j1,rfl⟩;go_wp2_with fail
   refine (stuck_yes _).mono ?_;rintro n w2 ⟨rfl,l2⟩;have l2':Later w w2:=(Later.drewN' w j1).trans l2;unfold unitE;go_wp2_with fail
   refine (HH.out w2 l2').mono ?_;rintro n w3 ⟨rfl,j3,rfl⟩;go_wp2_with fail
   refine (stuck_no _).mono ?_;rintro n w4 ⟨rfl,l4⟩;have HP:=HZ.out w4 ((l2'.trans (Later.drewN' w2 j3)).trans l4);clear HZ HH HO;unfold finP at HP ⊢;go_wp2_with fail
   exact⟨rfl,HP⟩
  ·have hf:(true&&(s.W k % 8 != 0))=true:=by simp[hm]
   rw[hf,if_pos rfl];have hne2:(s.W k % 8 != 0)=true:=by simp[hm]
   have HZ:Hid (∀ w',Later w w'→LookQ C w s ov (Option.map (Value.int .i64) (some (s.W k / 8))) (.returned (.int .i64 (s.W k / 8))) w'):=fun w' l=>⟨rfl,l⟩
   generalize LookQ C w s ov (Option.map (Value.int .i64) (some (s.W k / 8)))=Q at *
   clear h HPan hI hgd hfr hf hm
   generalize s.W k / 8=sz at *
   generalize s.W k % 8=m at *
   go_enter Tryz.func134,Tryz.ntmps134;go_wp2_with fail
   refine HO.out.mono ?_;rintro n w1 ⟨rfl,j1,rfl⟩;go_wp2_with fail
   refine (stuck_yes _).mono ?_;rintro n w2 ⟨rfl,l2⟩;have l2':Later w w2:=(Later.drewN' w j1).trans l2;unfold unitE;go_wp2_with fail
   refine (HH.out w2 l2').mono ?_;rintro n w3 ⟨rfl,j3,rfl⟩;go_wp2_with fail
   refine (stuck_yes _).mono ?_;rintro n w4 ⟨rfl,l4⟩;have HP:=HZ.out w4 ((l2'.trans (Later.drewN' w2 j3)).trans l4);clear HZ HH HO;unfold unitE;go_wp2_with fail
   first|exact HP|(go_ret;exact HP)
 ·have hof:s.obj C.H z=false:=by simpa using ho
  rw[hof]at HO ⊢;rw[Bool.false_and,if_neg (by simp)];have HZ:Hid (∀ w',Later w w'→LookQ C w s ov (Option.map (Value.int .i64) none) (finP 7 0) w'):=fun w' l=>HPan.out w' l
  generalize LookQ C w s ov (Option.map (Value.int .i64) none)=Q at *
  clear h HPan hI;go_enter Tryz.func134,Tryz.ntmps134;go_wp2_with fail
  refine HO.out.mono ?_;rintro n w1 ⟨rfl,j1,rfl⟩;go_wp2_with fail
  refine (stuck_no _).mono ?_;rintro n w2 ⟨rfl,l2⟩;have HP:=HZ.out w2 ((Later.drewN' w j1).trans l2);clear HZ HO;unfold finP at HP ⊢;go_wp2_with fail
  exact⟨rfl,HP⟩
def wordP (C:Cx) (a:Nat):Value:=.pointer (some ⟨C.WB,a,none⟩)
theorem ielm_any {C:Cx}(hC:CxI C) {w:World}{s:Vm}{e:Nat}{cp iv ov rv:Value}(h:Pv C w s e cp iv ov rv) (hI:Iv C.x C.H s) (z k:Int) :
  Calls Tryz.prog 138 #[.pointer (some ⟨C.P,0,none⟩),.int .i64 z,.int .i64 k] w (LookQ C w s ov ((s.elm C.H z k).map (wordP C))):=by
 have hN:=hC.hN;have h4:=hC.h4
 have HPan:Hid (∀ w',Later w w'→PanQ C s ov 7 0 (finP 7 0) w'):=fun w' l=>⟨rfl,s,e,cp,iv,rv,h.kept l,rfl,rfl,rfl,rfl⟩
 have HL:Hid (Calls Tryz.prog 134 #[.pointer (some ⟨C.P,0,none⟩),.int .i64 z] w (LookQ C w s ov ((s.len C.H z).map (Value.int .i64)))):=ilen_any hC h hI z
 have HOk:Hid (∀ a,s.elm C.H z k=some a→∃ zn kn:Nat,z=zn∧k=kn∧a=zn+1+kn∧a<C.N):=fun a ha=>by
  obtain⟨ho,rfl,hk⟩:=Vm.elm_ok (x:=C.x) ha;obtain⟨h12,hfr,_,_⟩:=hI.obj hC.xi ho;have hfe:=hI.fe;have hu:=hI.u;refine⟨z.toNat,k.toNat,by omega,?_,rfl,by omega⟩;unfold Vm.elm at ha
  cases hl:s.len C.H z with
  | none=>rw[hl]at ha;cases ha
  | some n =>
   rw[hl]at ha;simp only at ha;split at ha
   ·omega
   ·cases ha
 have HK:Hid (∀ w',Later w w'→w'.cell? ⟨C.P,9,none⟩=some (.slice (some ⟨C.WB,0,none⟩) C.N C.N)):=fun w' l=>(h.kept l).c9.1;have HQ1:Hid (∀ n w',s.elm C.H z k=none→PanQ C s ov 7 0 n w'→LookQ C w s ov ((s.elm C.H z k).map (wordP C)) n w'):=fun n w' he p=>by rw[he];exact p
 have HQ2:Hid (∀ a w',s.elm C.H z k=some a→Later w w'→LookQ C w s ov ((s.elm C.H z k).map (wordP C)) (.returned (wordP C a)) w'):=fun a w' he l=>by rw[he];exact⟨rfl,l⟩
 have HE:Hid (s.elm C.H z k=match s.len C.H z with|none=>none|some n=>if 0≤k∧k<n then some (z.toNat+1+k.toNat) else none):=rfl
 generalize LookQ C w s ov ((s.elm C.H z k).map (wordP C))=Q at *
 generalize s.elm C.H z k=EL at *
 clear h hI;go_enter Tryz.func138,Tryz.ntmps138;go_wp2_with fail
 refine HL.out.mono ?_;rintro n1 w1 hq1
 cases hl:s.len C.H z with
 | none =>
  rw[hl]at hq1;have he:=HE.out;rw[hl]at he;have HP:=HQ1.out n1 w1 he hq1;obtain⟨rfl,_⟩:=hq1;clear HL HPan HOk HK HQ1 HQ2 HE;unfold finP at HP ⊢;go_wp2_with fail
  exact⟨rfl,HP⟩
 | some n =>
  rw[hl]at hq1;obtain⟨rfl,l1⟩:=hq1;have he:=HE.out;rw[hl]at he;simp only at he;by_cases hin:0≤k∧k<n
  ·rw[if_pos hin]at he;have hb:plB k n=true:=by unfold plB;simp[hin]
   obtain⟨zn,kn,rfl,rfl,ha,haN⟩:=HOk.out _ he;have c9:=HK.out;rw[ha]at he haN;have HZ:=HQ2.out (zn+1+kn)
   obtain⟨z1,hz1⟩:∃ z1,z1=zn+1:=⟨_,rfl⟩
   obtain⟨b,hb2⟩:∃ b,b=zn+1+kn:=⟨_,rfl⟩
   rw[←hb2]at he haN HZ;have g1:(zn:Int)+1=(z1:Int):=by omega
   have g2:(z1:Int)+(kn:Int)=(b:Int):=by omega
   have g3:(b:Int)<(C.N:Int):=by omega
   have g4:(b:Int)≤40000:=by omega
   have g5:(z1:Int)≤40000:=by omega
   clear HL HPan HOk HQ1 HQ2 HE hl hN h4 hz1 hb2 ha;go_wp2_with fail
   refine (place_b hb _).mono ?_;rintro e2 w2 ⟨rfl,rfl⟩;go_wp2_with fail
   refine (stuck_yes _).mono ?_;rintro n3 w3 ⟨rfl,l3⟩;have d9:=c9 w3 (l1.trans l3);have HZ3:=HZ w3 he (l1.trans l3);clear HZ c9 HK;unfold unitE;unfold wordP at HZ3;go_wp2_with fail
   first|exact HZ3|(go_ret;exact HZ3)
  ·rw[if_neg hin]at he;have hb:plB k n=false:=by unfold plB;simp only[Bool.and_eq_false_iff,decide_eq_false_iff_not];omega
   have HP:=HQ1.out (finP 7 0);have HP2:=HPan.out;clear HL HPan HOk HK HQ1 HQ2 HE hl;go_wp2_with fail
   refine (place_b hb _).mono ?_;rintro e2 w2 ⟨rfl,rfl⟩;go_wp2_with fail
   refine (stuck_no _).mono ?_;rintro n3 w3 ⟨rfl,l3⟩;have HP3:=HP w3 he (HP2 w3 (l1.trans l3));clear HP HP2;unfold finP at HP3 ⊢;go_wp2_with fail
   exact⟨rfl,HP3⟩
theorem st_len {C:Cx}(hC:CxI C) {q:Nat}(hn:q<C.x.structs.length):∃ g off sc va vc,C.sv=.slice (some ⟨g,off,none⟩) C.x.structs.length sc∧∀ w',Later C.w0 w'→w'.cell? ⟨g,off+q,none⟩=some (.slice va (stAt C.x q).length vc):=by
 obtain⟨sa,sc,hsv,_⟩:=Bs.slice hC.st;have hst:=hC.st;rw[hsv]at hst;obtain⟨g,off,v0,rfl,hgl,hc0,hr0⟩:=Bs.elem hst _ hn;obtain⟨va,vc,rfl,_⟩:=Bo.slice hr0;rw[Nat.mul_one]at hc0;refine⟨g,off,sc,va,vc,hsv,fun w' l=>?_⟩;rw[Below.cell l (p:=⟨g,off+q,none⟩) hgl,hc0];unfold stAt;rw[List.getD_eq_getElem?_getD,List.getElem?_eq_getElem hn,Option.getD_some]
theorem ifld_any {C:Cx}(hC:CxI C) {w:World}{s:Vm}{e:Nat}{cp iv ov rv:Value}(h:Pv C w s e cp iv ov rv) (hI:Iv C.x C.H s) (z:Int) (k:Nat) (hk5:k≤4) :
  Calls Tryz.prog 137 #[.pointer (some ⟨C.P,0,none⟩),.int .i64 z,.int .i64 (k:Int)] w (LookQ C w s ov ((s.fld C.x C.H z (k:Int)).map (wordP C))):=by
 have hN:=hC.hN;have h4:=hC.h4
 have HPan:Hid (∀ w',Later w w'→PanQ C s ov 7 0 (finP 7 0) w'):=fun w' l=>⟨rfl,s,e,cp,iv,rv,h.kept l,rfl,rfl,rfl,rfl⟩
 have HO:Hid (Calls Tryz.prog 152 #[.pointer (some ⟨C.P,0,none⟩),.int .i64 z] w (DrQ (.returned (.bool (s.obj C.H z))) w)):=iobj_b hC h hI.u rfl;have HQ1:Hid (∀ w',s.fld C.x C.H z (k:Int)=none→Later w w'→LookQ C w s ov ((s.fld C.x C.H z (k:Int)).map (wordP C)) (finP 7 0) w'):=fun w' he l=>by rw[he];exact HPan.out w' l
 have HQ2:Hid (∀ a w',s.fld C.x C.H z (k:Int)=some a→Later w w'→LookQ C w s ov ((s.fld C.x C.H z (k:Int)).map (wordP C)) (.returned (wordP C a)) w'):=fun a w' he l=>by rw[he];exact⟨rfl,l⟩
 have HE:Hid (s.fld C.x C.H z (k:Int)=if s.obj C.H z&&(s.W z.toNat % 8==0&&decide ((k:Int)<(stAt C.x (s.W z.toNat / 8).toNat).length)) then some (z.toNat+1+k) else none):=rfl
 have HK:Hid (∀ w',Later w w'→w'.cell? ⟨C.P,9,none⟩=some (.slice (some ⟨C.WB,0,none⟩) C.N C.N)∧w'.cell? ⟨C.P,5,none⟩=some C.sv):=fun w' l=>⟨(h.kept l).c9.1,(h.kept l).c5.1⟩
 have hlat:=h.lat
 generalize LookQ C w s ov ((s.fld C.x C.H z (k:Int)).map (wordP C))=Q at *
 generalize s.fld C.x C.H z (k:Int)=FL at *
 by_cases ho:s.obj C.H z=true
 ·rw[ho]at HO HE;obtain⟨h12,hfr,hgd,_⟩:=hI.obj hC.xi ho;have hfe:=hI.fe;have hu:=hI.u
  obtain⟨zn,rfl⟩:∃ zn:Nat,z=(zn:Int):=⟨z.toNat,by omega⟩
  simp only[Int.toNat_natCast]at hfr hgd HE;have HH:Hid (∀ w',Later w w'→Calls Tryz.prog 153 #[.pointer (some ⟨C.P,0,none⟩),.int .i64 (zn:Int)] w' (DrQ (.returned (.tuple #[.int .i64 (s.W zn % 8),.int .i64 (s.W zn / 8)])) w')):=fun w' l=>ihead_any (h.kept l) (by omega) hgd.1 hgd.2.1;by_cases hm:s.W zn % 8=0
  ·have hq:=hgd.2.2.1 hm;have hszw:=szW_str (x:=C.x) hm;obtain⟨g,off,sc,va,vc,hsv,hcs⟩:=st_len hC hq;have h0:=hgd.1
   obtain⟨q,hqq⟩:∃ q:Nat,s.W zn / 8=(q:Int):=⟨(s.W zn / 8).toNat,by omega⟩
   have hqt:(s.W zn / 8).toNat=q:=by omega
   have HE2:Hid (FL=if (true&&(s.W zn % 8==0&&decide ((k:Int)<(stAt C.x q).length))) then some (zn+1+k) else none):=by rw[←hqt];exact HE.out
   rw[hqt]at hq hcs hszw;have i1:(q:Int)<(C.x.structs.length:Int):=by omega
   rw[hm,hqq]at HH;rw[hsv]at HK;have hfrb:k<(stAt C.x q).length→zn+1+k<C.N:=fun hk=>by omega
   by_cases hkk:k<(stAt C.x q).length
   ·have he:FL=some (zn+1+k):=by
     rw[HE2.out,if_pos];simp[hm,hkk]
    have haN:=hfrb hkk;have HZ:=HQ2.out (zn+1+k)
    obtain⟨z1,hz1⟩:∃ z1,z1=zn+1:=⟨_,rfl⟩
    obtain⟨b,hb2⟩:∃ b,b=zn+1+k:=⟨_,rfl⟩
    rw[←hb2]at he haN HZ;have g1:(zn:Int)+1=(z1:Int):=by omega
    have g2:(z1:Int)+(k:Int)=(b:Int):=by omega
    have g3:(b:Int)<(C.N:Int):=by omega
    have g4:(b:Int)≤40000:=by omega
    have g5:(z1:Int)≤40000:=by omega
    have g6:(k:Int)<((stAt C.x q).length:Int):=by omega
    generalize (stAt C.x q).length=L at *
    clear HPan HQ1 HQ2 HE HE2 hN h4 hz1 hb2 hfr hgd hm hszw hqq hqt hsv hI h hfe hu hfrb;go_enter Tryz.func137,Tryz.ntmps137;go_wp2_with fail
    refine HO.out.mono ?_;rintro n w1 ⟨rfl,j1,rfl⟩;go_wp2_with fail
    refine (stuck_yes _).mono ?_;rintro n w2 ⟨rfl,l2⟩;have l2':Later w w2:=(Later.drewN' w j1).trans l2;unfold unitE;go_wp2_with fail
    refine (HH.out w2 l2').mono ?_;rintro n w3 ⟨rfl,hk3⟩;have l3:Later w w3:=by obtain⟨j3,rfl⟩:=hk3;exact l2'.trans (Later.drewN' _ _)
    obtain⟨d9,d5⟩:=HK.out w3 l3;have ds:=hcs w3 (hlat.trans l3);clear hk3 HH HO;go_wp2_with fail
    refine (stuck_yes _).mono ?_;rintro n w4 ⟨rfl,l4⟩;obtain⟨f9,_⟩:=HK.out w4 (l3.trans l4);have HP:=HZ w4 he (l3.trans l4);clear HZ HK d9 d5 ds hcs;unfold unitE;unfold wordP at HP;go_wp2_with fail
    first|exact HP|(go_ret;exact HP)
   ·have he:FL=none:=by
     rw[HE2.out,if_neg];simp[hkk]
    have HZ:=HQ1.out;have g6:¬ ((k:Int)<((stAt C.x q).length:Int)):=by omega
    have g7:decide ((k:Int)<((stAt C.x q).length:Int))=false:=decide_eq_false g6
    generalize (stAt C.x q).length=L at *
    clear HPan HQ1 HQ2 HE HE2 hN h4 hfr hgd hm hszw hqq hqt hsv hI h hfe hu hfrb;go_enter Tryz.func137,Tryz.ntmps137;go_wp2_with fail
    refine HO.out.mono ?_;rintro n w1 ⟨rfl,j1,rfl⟩;go_wp2_with fail
    refine (stuck_yes _).mono ?_;rintro n w2 ⟨rfl,l2⟩;have l2':Later w w2:=(Later.drewN' w j1).trans l2;unfold unitE;go_wp2_with fail
    refine (HH.out w2 l2').mono ?_;rintro n w3 ⟨rfl,hk3⟩;have l3:Later w w3:=by obtain⟨j3,rfl⟩:=hk3;exact l2'.trans (Later.drewN' _ _)
    obtain⟨d9,d5⟩:=HK.out w3 l3;have ds:=hcs w3 (hlat.trans l3);clear hk3 HH HO;go_wp2_with fail
    refine (stuck_no _).mono ?_;rintro n w4 ⟨rfl,l4⟩;have HP:=HZ w4 he (l3.trans l4);clear HZ HK d9 d5 ds hcs;unfold finP at HP ⊢;go_wp2_with fail
    exact⟨rfl,HP⟩
  ·have he:FL=none:=by
    rw[HE.out,if_neg];simp[hm]
   have HZ:=HQ1.out;have hne:(s.W zn % 8==0)=false:=by simp[hm]
   clear HPan HQ1 HQ2 HE hN h4 hfr hgd hI h hfe hu
   generalize s.W zn / 8=sz at *
   generalize s.W zn % 8=m at *
   go_enter Tryz.func137,Tryz.ntmps137;go_wp2_with fail
   refine HO.out.mono ?_;rintro n w1 ⟨rfl,j1,rfl⟩;go_wp2_with fail
   refine (stuck_yes _).mono ?_;rintro n w2 ⟨rfl,l2⟩;have l2':Later w w2:=(Later.drewN' w j1).trans l2;unfold unitE;go_wp2_with fail
   refine (HH.out w2 l2').mono ?_;rintro n w3 ⟨rfl,hk3⟩;have l3:Later w w3:=by obtain⟨j3,rfl⟩:=hk3;exact l2'.trans (Later.drewN' _ _)
   clear hk3 HH HO;go_wp2_with fail
   refine (stuck_no _).mono ?_;rintro n w4 ⟨rfl,l4⟩;have HP:=HZ w4 he (l3.trans l4);clear HZ HK;unfold finP at HP ⊢;go_wp2_with fail
   exact⟨rfl,HP⟩
 ·have hof:s.obj C.H z=false:=by simpa using ho
  rw[hof]at HO HE;have he:FL=none:=by rw[HE.out,if_neg];simp
  have HZ:=HQ1.out;clear HPan HQ1 HQ2 HE hI h;go_enter Tryz.func137,Tryz.ntmps137;go_wp2_with fail
  refine HO.out.mono ?_;rintro n w1 ⟨rfl,j1,rfl⟩;go_wp2_with fail
  refine (stuck_no _).mono ?_;rintro n w2 ⟨rfl,l2⟩;have HP:=HZ w2 he ((Later.drewN' w j1).trans l2);clear HZ HO;unfold finP at HP ⊢;go_wp2_with fail
  exact⟨rfl,HP⟩
theorem links_len {W:Nat→Int}:∀ (k fp:Nat),(linksL W k fp).length=k
 | 0,_=>rfl
 | k+1,fp=>by rw[linksL,List.length_cons,links_len]
theorem links_next {x:Im}{W:Nat→Int}{base:Nat}:∀ {k fp:Nat},Chain x W base k fp→∀ (j:Nat) (hj:j<(linksL W k fp).length),(∀ (h:j+1<(linksL W k fp).length),W (linksL W k fp)[j]=(((linksL W k fp)[j+1]:Nat):Int)∧0<(linksL W k fp)[j+1])∧(j+1=(linksL W k fp).length→W (linksL W k fp)[j]=0)
 | 0,_,h,_,_=>h.elim
 | 1,fp,h,j,hj=>by
  rw[Chain]at h;have hl:linksL W 1 fp=[fp]:=rfl;obtain rfl:j=0:=by rw[hl]at hj;simpa using hj
  exact⟨fun q=>by rw[hl]at q;simp at q,fun _=>h.2⟩
 | k+2,fp,h,j,hj=>by
  rw[Chain]at h;obtain⟨g,q,c,i,h1,h2,h3,h4,h5,h6,h7,h8,h9⟩:=h;have hl:linksL W (k+2) fp=fp::linksL W (k+1) g:=by rw[linksL,h1];rfl
  have hl2:linksL W (k+1) g=g::linksL W k (W g).toNat:=rfl
  cases j with
  | zero =>
   refine⟨fun q=>?_,fun q=>?_⟩
   ·simp only[hl,hl2];exact⟨h1,h2⟩
   ·rw[links_len]at q;omega
  | succ j =>
   have ih:=links_next h9 j (by rw[links_len]at hj ⊢;omega);refine⟨fun q=>?_,fun q=>?_⟩
   ·have:=ih.1 (by rw[links_len]at q ⊢;omega);simp only[hl];exact this
   ·have:=ih.2 (by rw[links_len]at q ⊢;omega);simp only[hl];exact this
theorem links_nodup {x:Im}(hx:ImI x) {W:Nat→Int}{base:Nat}:∀ {k fp:Nat},Chain x W base k fp→(linksL W k fp).Nodup
 | 0,_,h=>h.elim
 | 1,fp,_=>List.nodup_cons.2 ⟨fun hm=>(by cases hm),List.nodup_nil⟩
 | k+2,fp,h=>by
  have hrg:=Chain.rg hx h;rw[Chain]at h;obtain⟨g,q,c,i,h1,h2,h3,h4,h5,h6,h7,h8,h9⟩:=h;have hl:linksL W (k+2) fp=fp::linksL W (k+1) g:=by rw[linksL,h1];rfl
  rw[hl];refine List.nodup_cons.2 ⟨fun hm=>?_,links_nodup hx h9⟩;have:=(Chain.rg hx h9 fp hm).2.1;have:=(hx.at h4).fr;omega
def Vm.cpW (s:Vm) (e b j:Nat):Nat→Int:=fun a =>
 if b≤a∧a<b+(e+7 - s.base) then
  (if (a - b+s.base)∈(linksL s.W s.calls s.fp).take j∧s.W (a - b+s.base)≠0 then s.W (a - b+s.base)+((b:Int) - s.base) else s.W (a - b+s.base))
 else s.W a
def Vm.cpS (s:Vm) (e b z j nf:Nat):Vm:={ s with W:=s.cpW e b j,base:=b,size:=z,fp:=nf,copies:=s.copies+1 }
theorem cpW_zero {s:Vm}{e b:Nat}(a:Nat):s.cpW e b 0 a=if b≤a∧a<b+(e+7 - s.base) then s.W (a - b+s.base) else s.W a:=by
 unfold Vm.cpW;split
 ·rw[List.take_zero,if_neg (by simp)]
 ·rfl
theorem cpW_at {x:Im}(hx:ImI x) {s:Vm}{e b:Nat}(hc:Chain x s.W s.base s.calls s.fp) (he:s.fp+3≤e) {j:Nat}(hj:j<(linksL s.W s.calls s.fp).length):s.cpW e b j (b+((linksL s.W s.calls s.fp)[j] - s.base))=s.W (linksL s.W s.calls s.fp)[j]:=by
 have hr:=hc.rg hx _ (List.getElem_mem hj);unfold Vm.cpW;rw[if_pos ⟨by omega,by omega⟩,show b+((linksL s.W s.calls s.fp)[j] - s.base) - b+s.base=(linksL s.W s.calls s.fp)[j] by omega,if_neg];rintro ⟨hm,_⟩;obtain⟨i,hi,e1⟩:=List.mem_iff_getElem.1 hm;rw[List.getElem_take]at e1;rw[List.length_take]at hi;exact List.pairwise_iff_getElem.1 (links_nodup hx hc) i j (by omega) hj (by omega) e1
theorem cpW_step {x:Im}(hx:ImI x) {s:Vm}{e b:Nat}(hc:Chain x s.W s.base s.calls s.fp) (he:s.fp+3≤e) {j:Nat}(hj:j<(linksL s.W s.calls s.fp).length) (hne:s.W (linksL s.W s.calls s.fp)[j]≠0) (a:Nat) :
  s.cpW e b (j+1) a=fset (s.cpW e b j) (b+((linksL s.W s.calls s.fp)[j] - s.base)) (s.W (linksL s.W s.calls s.fp)[j]+((b:Int) - s.base)) a:=by
 have hr:=hc.rg hx _ (List.getElem_mem hj);unfold fset;by_cases q:a=b+((linksL s.W s.calls s.fp)[j] - s.base)
 ·rw[if_pos q];have hmem:(linksL s.W s.calls s.fp)[j]∈(linksL s.W s.calls s.fp).take (j+1):=by rw[List.take_succ_eq_append_getElem hj];exact List.mem_append_right _ (List.mem_singleton.2 rfl)
  unfold Vm.cpW;rw[if_pos ⟨by omega,by omega⟩,show a - b+s.base=(linksL s.W s.calls s.fp)[j] by omega,if_pos ⟨hmem,hne⟩]
 ·rw[if_neg q];unfold Vm.cpW;split
  ·rename_i hq
   have:((a - b+s.base)∈(linksL s.W s.calls s.fp).take (j+1))↔((a - b+s.base)∈(linksL s.W s.calls s.fp).take j):=by
    rw[List.take_succ_eq_append_getElem hj,List.mem_append];refine⟨fun k=>?_,fun k=>.inl k⟩;rcases k with k|k
    ·exact k
    ·have:=List.mem_singleton.1 k;omega
   simp only[this]
  ·rfl
theorem cpW_end {s:Vm}{e b:Nat}{j:Nat}(hj:j+1=(linksL s.W s.calls s.fp).length) (hz:s.W (linksL s.W s.calls s.fp)[j]=0) (a:Nat):s.cpW e b s.calls a=s.cpW e b j a:=by
 have hl:=links_len (W:=s.W) s.calls s.fp;unfold Vm.cpW;split
 ·have h1:(linksL s.W s.calls s.fp).take s.calls=(linksL s.W s.calls s.fp).take j++[(linksL s.W s.calls s.fp)[j]]:=by
   rw[←List.take_succ_eq_append_getElem (by omega)]
   congr 1
   omega
  rw[h1];by_cases hm:(a - b+s.base)∈(linksL s.W s.calls s.fp).take j
  ·have:(a - b+s.base)∈(linksL s.W s.calls s.fp).take j++[(linksL s.W s.calls s.fp)[j]]:=List.mem_append_left _ hm;simp only[this,hm]
  ·by_cases hl:a - b+s.base=(linksL s.W s.calls s.fp)[j]
   ·rw[hl,hz];simp
   ·have:(a - b+s.base)∉(linksL s.W s.calls s.fp).take j++[(linksL s.W s.calls s.fp)[j]]:=fun k=>by
     rcases List.mem_append.1 k with k|k
     ·exact hm k
     ·exact hl (List.mem_singleton.1 k)
    simp only[this,hm]
 ·rfl
theorem copyW_cpW {x:Im}{s:Vm}{b:Nat}(a:Nat):s.copyW x b a=s.cpW (s.top x) b s.calls a:=by
 unfold Vm.copyW Vm.cpW;rw[show (linksL s.W s.calls s.fp).take s.calls=linksL s.W s.calls s.fp from List.take_of_length_le (by rw[links_len];exact Nat.le_refl _)]
end Go.Proofs.YtjnpncefkigcbaaGreat
