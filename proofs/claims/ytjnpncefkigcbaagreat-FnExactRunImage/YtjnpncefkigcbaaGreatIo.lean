import Derived.Test.YtjnpncefkigcbaaGreatIn
import Derived.Test.YtjnpncefkigcbaaGreatHu
import Derived.Test.YtjnpncefkigcbaaGreatIl
set_option maxHeartbeats 100000000
set_option maxRecDepth 100000
namespace Go.Proofs.YtjnpncefkigcbaaGreat
open Go.RowKit Go.Lib Go.Maps
theorem lret_any {C:Mx}(hC:MxI C) {w:World}{s:Vm}{q:Mq}{iv ov:Value}(h:Al C w s q iv ov) {A:Nat}(hA:A<16) (op b c n:Int) (hn:n=0∨n=1) :
  Calls Tryz.prog 84 #[.pointer (some ⟨C.K,0,none⟩),.agg #[.int .i64 op,.int .i64 (A:Int),.int .i64 b,.int .i64 c,.int .i64 n]] w (StM C q.ev (s.ret ⟨op,(A:Int),b,c,n⟩)):=by
 have hN:=hC.hN;have hlt:=h.mv.box.lt;have hlt2:=h.mv.rd.lt;have hP:¬ C.K=w.heap.size:=by omega
 have hP2:¬ C.RB=w.heap.size:=by omega
 have c14:=h.mv.c14.1;obtain⟨cr,zr⟩:=h.mv.reg hA;obtain⟨c0,z0⟩:=h.mv.reg (a:=0) (by decide);have i1:(A:Int)<16:=by omega
 have HS:Hid (∃ t,t=(if n=1 then s.set 0 (s.rg A) else s)):=⟨_,rfl⟩
 obtain⟨t,ht⟩:=HS.out;have hIt:Iv C.x C.H t:=by rw[ht];split;exact h.iv.set _ _;exact h.iv
 have hag:AgM t q.W:=by rw[ht];split;exact h.ag;exact h.ag
 have hor:t.orc=C.orc.drop q.ev:=by rw[ht];split;exact h.orc;exact h.orc
 have hret:s.ret ⟨op,(A:Int),b,c,n⟩=if t.W t.fp=0 then .fin 1 0 t else .go { t with pc:=(t.W (t.fp+1)).toNat,fp:=(t.W t.fp).toNat,fn:=(t.W ((t.W t.fp).toNat+2)).toNat,calls:=t.calls - 1 }:=by
  unfold Vm.ret;show (if (if n=1 then s.set 0 (s.rg A) else s).W (if n=1 then s.set 0 (s.rg A) else s).fp=0 then St.fin 1 0 (if n=1 then s.set 0 (s.rg A) else s) else _)=_;rw[ht];rfl
 have hIr:∀ u,s.ret ⟨op,(A:Int),b,c,n⟩=.go u→Iv C.x C.H u:=fun u e=>h.iv.ret hC.xi e;have hen:=h.en;have hcd:=h.cd;have HM:Hid (∀ w',Later w w'→n=0→Mv C w' t q iv ov):=fun w' l e=>by rw[ht,if_neg (by omega)];exact h.mv.kept l
 have HM1:Hid (∀ w',Later (w.setCell ⟨C.RB,0,none⟩ (.int .i64 (s.rg A))) w'→n=1→Mv C w' t q iv ov):=fun w' l e=>by rw[ht,if_pos e];exact (h.mv.setR hC (a:=0) (by decide) (s.rg A)).kept l
 clear ht h HS
 generalize s.ret ⟨op,(A:Int),b,c,n⟩=R at *
 generalize s.rg A=V at *
 generalize s.rg 0=V0 at *
 generalize hQ:StM C q.ev R=Q at *
 have HR:Hid (R=if t.W t.fp=0 then .fin 1 0 t else .go { t with pc:=(t.W (t.fp+1)).toNat,fp:=(t.W t.fp).toNat,fn:=(t.W ((t.W t.fp).toNat+2)).toNat,calls:=t.calls - 1 }):=hret
 have HI:Hid (Iv C.x C.H t∧AgM t q.W∧t.orc=C.orc.drop q.ev∧q.en=0∧q.cd=0∧Q=StM C q.ev R∧∀ u,R=.go u→Iv C.x C.H u):=⟨hIt,hag,hor,hen,hcd,hQ.symm,hIr⟩
 clear hret hIt hag hor hen hcd hIr hQ hN;go_enter Tryz.func84,Tryz.ntmps84;go_upto_if 6 with fail
 go_cut [3] from 4 (fun s3 wx=>Hid (Mv C wx t q iv ov))
 case first =>
  rcases hn with rfl|rfl
  ·have HP:Hid (∀ w',Later w w'→Mv C w' t q iv ov):=fun w' l=>HM.out w' l rfl;clear HM HM1 HR HI;go_wp2_with fail
   go_meet
   case rel=>exact HP.out _ (later_a _ _)
  ·have HP:Hid (∀ w',Later (w.setCell ⟨C.RB,0,none⟩ (.int .i64 V)) w'→Mv C w' t q iv ov):=fun w' l=>HM1.out w' l rfl;clear HM HM1 HR HI;go_wp2_with fail
   go_region
   go_wp2_with fail
   go_meet
   case rel=>exact HP.out _ (by first|exact later_ad _ _|exact later_a _ _)
 case rest =>
  have p:=hcut.out;clear HM HM1 c14 cr zr c0 z0 i1;obtain⟨hIt,hag,hor,hen,hcd,hQ,hIr⟩:=HI.out;have hb2:=hIt.b2;have hb3:=hIt.b3;have htop:t.top C.x=t.fp+frN C.x t.fn:=rfl;have hfr:=(hC.xi.at hIt.fn).fr;have hcl:=hIt.c1;have hc1:=hIt.cpos;have hN:=hC.hN;have d3:=p.c3.1;have d10:=p.c10;have hqa:q.W t.fp=t.W t.fp:=hag _ (.inl (by omega));obtain⟨dw,_⟩:=p.word (a:=t.fp) (by omega);rw[hqa]at dw;have g1:(t.fp:Int)<(C.N:Int):=by omega
  have g2:(t.fp:Int)≤12000:=by omega
  by_cases hz:t.W t.fp=0
  ·have hR:R=.fin 1 0 t:=by rw[HR.out,if_pos hz]
   have HSp:Hid (∀ w',Later wc w'→Calls Tryz.prog 23 #[.pointer (some ⟨C.K,0,none⟩),.int .i64 1,.int .i64 0] w' (MQ C w' unitE t (q.stop 1 0) iv ov)):=fun w' l=>lstop_any hC (p.kept l) 1 0
   have HP:Hid (∀ w2 w3,MQ C w2 unitE t (q.stop 1 0) iv ov unitE w3→Q unitE w3):=fun w2 w3 m=>by
    rw[hQ,hR];exact⟨rfl,fun e c t k=>by cases k;exact⟨iv,ov,_,_,m.2.1,by unfold Mq.stop;rw[if_pos hen],by unfold Mq.stop;rw[if_pos hen],rfl,rfl,rfl,rfl⟩,fun t k=>(by cases k)⟩
   rw[hz]at dw;clear HR HI p hcut hIt hfr htop hag hor hQ hIr hR hqa hz hen hcd;obtain⟨d10,_⟩:=d10;go_wp2_with fail
   go_quiet (fail)
   go_wp2_with fail
   refine (HSp.out _ (Later.drewN' _ _)).mono ?_;rintro n3 w3 ⟨rfl,m3⟩;have HP3:=HP.out _ w3 ⟨rfl,m3⟩;clear HP HSp m3;unfold unitE at HP3 ⊢;go_wp2_with fail
   first|exact HP3|(go_end0;exact HP3)
  ·obtain⟨g,q0,c2,e1,e2,e3,e4,e5,e6,e7⟩:=ret_chain hIt hz;have hfr2:=(hC.xi.at e4).fr;have hi6:=(hC.xi.at e4).i6
   obtain⟨q1,hq1⟩:∃ q1,q1=q0+1:=⟨_,rfl⟩
   have e6':t.W (t.fp+1)=(q1:Int):=by omega
   have hR:R=.go { t with pc:=q1,fp:=g,fn:=c2,calls:=t.calls - 1 }:=by
    rw[HR.out,if_neg hz,e1,show ((g:Int)).toNat=g from rfl,e3,e6'];rfl
   obtain⟨dw1,_⟩:=p.word (a:=t.fp+1) (by omega);rw[hag _ (.inl (by omega)),e6']at dw1;obtain⟨dw2,_⟩:=p.word (a:=g+2) (by omega);rw[hag _ (.inl (by omega)),e3]at dw2;rw[e1]at dw
   obtain⟨cn,hcn⟩:∃ cn,cn=t.calls - 1:=⟨_,rfl⟩
   rw[←hcn]at hR;have HM0:Hid (∀ w',Later wc w'→Mv C w' t q iv ov):=fun w' l=>p.kept l;have HM1:Hid (∀ w',Mv C w' t q iv ov→Mv C (w'.setCell ⟨C.K,12,none⟩ (.int .i64 (q1:Int))) t { q with pc:=(q1:Int) } iv ov):=fun w' m=>m.setK hC (s':=t) (q':={ q with pc:=(q1:Int) }) (o:=12) (v:=.int .i64 (q1:Int)) (by decide) (map_ext rfl) rfl rfl rfl rfl rfl;have HM2:Hid (∀ w',Mv C w' t { q with pc:=(q1:Int) } iv ov→Mv C (w'.setCell ⟨C.K,10,none⟩ (.int .i64 (g:Int))) { t with fp:=g } { q with pc:=(q1:Int) } iv ov):=fun w' m=>m.setK hC (s':={ t with fp:=g }) (q':={ q with pc:=(q1:Int) }) (o:=10) (v:=.int .i64 (g:Int)) (by decide) (map_ext rfl) rfl rfl rfl rfl rfl;have HM3:Hid (∀ w',Mv C w' { t with fp:=g } { q with pc:=(q1:Int) } iv ov→Mv C (w'.setCell ⟨C.K,11,none⟩ (.int .i64 (c2:Int))) { t with fp:=g,fn:=c2 } { q with pc:=(q1:Int) } iv ov):=fun w' m=>m.setK hC (s':={ t with fp:=g,fn:=c2 }) (q':={ q with pc:=(q1:Int) }) (o:=11) (v:=.int .i64 (c2:Int)) (by decide) (map_ext rfl) rfl rfl rfl rfl rfl
   have HM4:Hid (∀ w' w'',Later wc w'→Later ((((w'.setCell ⟨C.K,12,none⟩ (.int .i64 (q1:Int))).setCell ⟨C.K,10,none⟩ (.int .i64 (g:Int))).setCell ⟨C.K,11,none⟩ (.int .i64 (c2:Int))).setCell ⟨C.K,13,none⟩ (.int .i64 (cn:Int))) w''→Q unitE w''):=fun w' w'' l l2=>by
    have m3:=HM3.out _ (HM2.out _ (HM1.out _ (HM0.out w' l)));have m4:=m3.setK hC (s':={ t with pc:=q1,fp:=g,fn:=c2,calls:=cn }) (q':={ q with pc:=(q1:Int) }) (o:=13) (v:=.int .i64 (cn:Int)) (by decide) (map_ext rfl) rfl rfl rfl rfl rfl;rw[hQ,hR];exact⟨rfl,fun e c u k=>(by cases k),fun u k=>by cases k;exact⟨_,iv,ov,⟨m4.kept l2,hag,hIr _ hR,hen,hcd,hor⟩,rfl,Nat.le_succ _⟩⟩
   clear HM0 HM1 HM2 HM3;obtain⟨d10,z10⟩:=d10;obtain⟨d11,z11⟩:=p.c11;obtain⟨d12,z12⟩:=p.c12;obtain⟨d13,z13⟩:=p.c13;have hzb:((g:Int)==0)=false:=by rw[beq_eq_false_iff_ne];omega
   obtain⟨f1,hf1⟩:∃ f1,f1=t.fp+1:=⟨_,rfl⟩
   obtain⟨g22,hg2⟩:∃ g2,g2=g+2:=⟨_,rfl⟩
   rw[←hf1]at dw1;rw[←hg2]at dw2;have g3:(t.fp:Int)+1=(f1:Int):=by omega
   have g4:(f1:Int)<(C.N:Int):=by omega
   have g5:(f1:Int)≤12000:=by omega
   have g6:(t.calls:Int) - 1=(cn:Int):=by omega
   have g7:(cn:Int)≤60:=by omega
   have g8:(g:Int)+2=(g22:Int):=by omega
   have g9:(g22:Int)<(C.N:Int):=by omega
   have g10:(g22:Int)≤12000:=by omega
   have g11:(g:Int)≤12000:=by omega
   have x1:=hC.d1;clear HR HI p hcut hIt hfr htop hz e1 e3 e5 e6 e6' e7 hf1 hq1 hfr2 hi6 hb2 hb3 hN hag hor hQ hIr hR hqa hen hcd hcn hg2;go_wp2_with fail
   go_quiet (fail)
   go_wp2_with fail
   go_region
   go_wp2_with fail
   go_region
   go_wp2_with fail
   go_region
   unfold unitE at HM4;go_wp2_with fail
   first|exact HM4.out _ _ (Later.drewN' _ _) (by first|exact (Later.drew _).trans (Later.drew _)|exact Later.refl _|exact Later.drew _|exact Later.drewN' _ _)|(go_end0;exact HM4.out _ _ (Later.drewN' _ _) (by first|exact (Later.drew _).trans (Later.drew _)|exact Later.refl _|exact Later.drew _|exact Later.drewN' _ _))
structure Bx2 (C:Mx) (B1 B2:Nat) (fr op a b c n:Int) (wx:World):Prop where
 l1:B1<wx.heap.size
 l2:B2<wx.heap.size
 n1:B1≠C.K∧B1≠C.WB∧B1≠C.SB∧B1≠C.RB
 n2:B2≠C.K∧B2≠C.WB∧B2≠C.SB∧B2≠C.RB
 f:wx.cell? ⟨B1,0,none⟩=some (.int .i64 fr)
 o:wx.cell? ⟨B2,0,none⟩=some (.int .i64 op)
 a:wx.cell? ⟨B2,1,none⟩=some (.int .i64 a)
 b:wx.cell? ⟨B2,2,none⟩=some (.int .i64 b)
 c:wx.cell? ⟨B2,3,none⟩=some (.int .i64 c)
 n:wx.cell? ⟨B2,4,none⟩=some (.int .i64 n)
theorem Bx2.only {C:Mx}{B1 B2:Nat}{fr op a b c n:Int}{wx w':World}(h:Bx2 C B1 B2 fr op a b c n wx) (o:OnlyL C wx w'):Bx2 C B1 B2 fr op a b c n w':=by
 have e1:=o.block B1 h.l1 h.n1.1 h.n1.2.1 h.n1.2.2.1 h.n1.2.2.2;have e2:=o.block B2 h.l2 h.n2.1 h.n2.2.1 h.n2.2.2.1 h.n2.2.2.2;exact⟨Nat.lt_of_lt_of_le h.l1 o.size,Nat.lt_of_lt_of_le h.l2 o.size,h.n1,h.n2,(World.cell?_of_block e1).trans h.f,(World.cell?_of_block e2).trans h.o,(World.cell?_of_block e2).trans h.a,(World.cell?_of_block e2).trans h.b,(World.cell?_of_block e2).trans h.c,(World.cell?_of_block e2).trans h.n⟩
theorem Bx2.kept {C:Mx}{B1 B2:Nat}{fr op a b c n:Int}{wx w':World}(h:Bx2 C B1 B2 fr op a b c n wx) (l:Later wx w'):Bx2 C B1 B2 fr op a b c n w':=h.only (OnlyL.of_later l)
theorem Mv.lts {C:Mx}{w:World}{s:Vm}{q:Mq}{iv ov:Value}(h:Mv C w s q iv ov):C.K<w.heap.size∧C.WB<w.heap.size∧C.SB<w.heap.size∧C.RB<w.heap.size:=⟨h.box.lt,h.wd.lt,h.sd.lt,h.rd.lt⟩
theorem bx2_new {C:Mx}{w:World}{s:Vm}{q:Mq}{iv ov:Value}(h:Mv C w s q iv ov) (t1 t2:TypeId) (fr op a b c n:Int) (v1 v2 v3:Value) :
  Bx2 C w.heap.size (w.alloc (Obj.cells #[.int .i64 fr,v1,v2,v3] t1)).heap.size fr op a b c n ((w.alloc (Obj.cells #[.int .i64 fr,v1,v2,v3] t1)).alloc (Obj.cells #[.int .i64 op,.int .i64 a,.int .i64 b,.int .i64 c,.int .i64 n] t2)):=by
 obtain⟨k1,k2,k3,k4⟩:=h.lts;have e1:=box_lt' w (Obj.cells #[.int .i64 fr,v1,v2,v3] t1);have e2:=box_lt' (w.alloc (Obj.cells #[.int .i64 fr,v1,v2,v3] t1)) (Obj.cells #[.int .i64 op,.int .i64 a,.int .i64 b,.int .i64 c,.int .i64 n] t2);refine⟨Nat.lt_trans e1 e2,e2,⟨by omega,by omega,by omega,by omega⟩,⟨by omega,by omega,by omega,by omega⟩,?_,box_at' _ _ rfl,box_at' _ _ rfl,box_at' _ _ rfl,box_at' _ _ rfl,box_at' _ _ rfl⟩;exact (Below.cell (later_a _ _) (p:=⟨w.heap.size,0,none⟩) e1).trans (box_at' w _ rfl)
theorem Mv.pcs {C:Mx}(hC:MxI C) {w:World}{s:Vm}{q:Mq}{iv ov:Value}(h:Mv C w s q iv ov) (z:Int):Mv C (w.setCell ⟨C.K,12,none⟩ (.int .i64 z)) s { q with pc:=z } iv ov:=h.setK hC (s':=s) (q':={ q with pc:=z }) (o:=12) (v:=.int .i64 z) (by decide) (map_ext rfl) rfl rfl rfl rfl rfl
theorem FinM.pcs {C:Mx}(hC:MxI C) {t:Vm}{e c:Int}{iv ov:Value}{w:World}(h:FinM C t e c iv ov w) (z:Int):FinM C t e c iv ov (w.setCell ⟨C.K,12,none⟩ (.int .i64 z)):=by
 obtain⟨s',q',m,r1,r2,r3⟩:=h;exact⟨s',{ q' with pc:=z },m.pcs hC z,r1,r2,r3⟩
theorem FinM.regs {C:Mx}(hC:MxI C) {t:Vm}{e c:Int}{iv ov:Value}{w:World}(h:FinM C t e c iv ov w) {a:Nat}(ha:a<16) (z:Int):FinM C t e c iv ov (w.setCell ⟨C.RB,a,none⟩ (.int .i64 z)):=by
 obtain⟨s',q',m,r1,r2,r3,r4,r5,r6⟩:=h;exact⟨_,q',m.setR hC ha z,r1,r2,r3,r4,r5,r6⟩
theorem st_finM {C:Mx}{ev:Nat}{R:St}{t:Vm}{e c:Int}{iv ov:Value}{w:World}(hR:R=.fin e c t) (h:FinM C t e c iv ov w):StM C ev R unitE w:=⟨rfl,fun e' c' t' k=>by rw[hR]at k;cases k;exact⟨iv,ov,h⟩,fun t' k=>by rw[hR]at k;cases k⟩
theorem st_goM {C:Mx}{ev:Nat}{R:St}{t:Vm}{q':Mq}{iv ov:Value}{w:World}(hR:R=.go t) (h:Al C w t q' iv ov) (hp:q'.pc=(t.pc:Int)) (he:q'.ev≤ev+1):StM C ev R unitE w:=⟨rfl,fun e' c' t' k=>(by rw[hR]at k;cases k),fun t' k=>by rw[hR]at k;cases k;exact⟨q',iv,ov,h,hp,he⟩⟩
theorem Al.stop {C:Mx}{w w':World}{s:Vm}{q:Mq}{iv ov:Value}(h:Al C w s q iv ov) {e c:Int}(m:Mv C w' s (q.stop e c) iv ov):FinM C s e c iv ov w':=⟨s,_,m,by unfold Mq.stop;rw[if_pos h.en],by unfold Mq.stop;rw[if_pos h.en],rfl,rfl,rfl,rfl⟩
theorem Al.go1 {C:Mx}(hC:MxI C) {w:World}{s:Vm}{q:Mq}{iv ov:Value}(h:Al C w s q iv ov) {ev:Nat}{R:St}(hR:R=.go s) {z:Int}(hz:z=(s.pc:Int)) (he:q.ev≤ev+1) {w':World}(l:Later (w.setCell ⟨C.K,12,none⟩ (.int .i64 z)) w'):StM C ev R unitE w':=st_goM hR (q':={ q with pc:=z }) ⟨(h.mv.pcs hC z).kept l,h.ag,h.iv,h.en,h.cd,h.orc⟩ hz he
theorem Al.reg1 {C:Mx}(hC:MxI C) {w:World}{s:Vm}{q:Mq}{iv ov:Value}(h:Al C w s q iv ov) {a:Nat}(ha:a<16) (z:Int):Al C (w.setCell ⟨C.RB,a,none⟩ (.int .i64 z)) (s.set (a:Int) z) q iv ov:=⟨h.mv.setR hC ha z,h.ag,h.iv.set _ _,h.en,h.cd,h.orc⟩
theorem larith_any {k a b:Int}(h0:0≤k) (h6:k≤6) (hb:b=0→¬ k=3∧¬ k=4) (w:World) :
  Calls Tryz.prog 47 #[.int .i64 k,.int .i64 a,.int .i64 b] w fun e w'=>e=.returned (.int .i64 (arI k a b))∧w'=w:=by
 have hc:k=0∨k=1∨k=2∨k=3∨k=4∨k=5∨k=6:=by omega
 clear h0 h6;rcases hc with rfl|rfl|rfl|rfl|rfl|rfl|rfl
 ·clear hb;go_enter Tryz.func47,Tryz.ntmps47;go_wp2_with fail
  go_ret;exact⟨rfl,rfl⟩
 ·clear hb;go_enter Tryz.func47,Tryz.ntmps47;go_wp2_with fail
  go_ret;exact⟨rfl,rfl⟩
 ·clear hb;go_enter Tryz.func47,Tryz.ntmps47;go_wp2_with fail
  go_ret;exact⟨rfl,rfl⟩
 ·have hb0:¬ b=0:=fun q=>(hb q).1 rfl;have hb1:(b==0)=false:=by simp[hb0]
  clear hb;by_cases hm:b=-1
  ·subst hm;clear hb0 hb1;go_enter Tryz.func47,Tryz.ntmps47;go_wp2_with fail
   go_ret;refine⟨?_,rfl⟩;show _=Ending.returned (Value.int .i64 (wrap64 (a.tdiv (-1))));rw[Int.tdiv_neg,Int.tdiv_one];rfl
  ·have hm1:(b==-1)=false:=by simp[hm]
   go_enter Tryz.func47,Tryz.ntmps47;go_wp2_with fail
   go_ret;exact⟨rfl,rfl⟩
 ·have hb0:¬ b=0:=fun q=>(hb q).2 rfl;have hb1:(b==0)=false:=by simp[hb0]
  clear hb;by_cases hm:b=-1
  ·subst hm;clear hb0 hb1;go_enter Tryz.func47,Tryz.ntmps47;go_wp2_with fail
   go_ret;refine⟨?_,rfl⟩;show _=Ending.returned (Value.int .i64 (a.tmod (-1)));rw[Int.tmod_neg,Int.tmod_one];rfl
  ·have hm1:(b==-1)=false:=by simp[hm]
   go_enter Tryz.func47,Tryz.ntmps47;go_wp2_with fail
   go_ret;exact⟨rfl,rfl⟩
 ·clear hb;go_enter Tryz.func47,Tryz.ntmps47;go_wp2_with fail
  refine (l1bool_any _ _).mono ?_;rintro e1 w1 ⟨rfl,rfl⟩;go_wp2_with fail
  go_ret;exact⟨rfl,rfl⟩
 ·clear hb;go_enter Tryz.func47,Tryz.ntmps47;go_wp2_with fail
  refine (l1bool_any _ _).mono ?_;rintro e1 w1 ⟨rfl,rfl⟩;go_wp2_with fail
  go_ret;exact⟨rfl,rfl⟩
theorem Mv.pcj {C:Mx}(hC:MxI C) {w:World}{s:Vm}{q:Mq}{iv ov:Value}(h:Mv C w s q iv ov) (p:Nat) (z:Int):Mv C (w.setCell ⟨C.K,12,none⟩ (.int .i64 z)) { s with pc:=p } { q with pc:=z } iv ov:=h.setK hC (s':={ s with pc:=p }) (q':={ q with pc:=z }) (o:=12) (v:=.int .i64 z) (by decide) (map_ext rfl) rfl rfl rfl rfl rfl
theorem Al.word {C:Mx}(hC:MxI C) {w:World}{s:Vm}{q:Mq}{iv ov:Value}(h:Al C w s q iv ov) {a:Nat}(ha:a<C.N) (z:Int) (hI:Iv C.x C.H { s with W:=fset s.W a z }):Al C (w.setCell ⟨C.WB,a,none⟩ (.int .i64 z)) { s with W:=fset s.W a z } { q with W:=fset q.W a z } iv ov :=
 ⟨(h.mv.setW hC ha z).conv rfl (fun _ _=>rfl),fun b hb=>by
  have:=h.ag b hb;show fset q.W a z b=fset s.W a z b;unfold fset;split
  ·rfl
  ·exact this,hI,h.en,h.cd,h.orc⟩
theorem rdy2_pc {x:Im}(hx:ImI x) {H:Nat}{s t:Vm}{n:Nat}(hI:Iv x H s) (hs:SafeAt x s.fn ((s.pc:Int) - 1)) (e:s.rdy2 x H n=.go t):t.pc=s.pc:=by
 unfold Vm.rdy2 at e;split at e
 ·cases e;rfl
 ·cases hc:s.coll x H with
  | none=>rw[hc]at e;cases e
  | some u =>
   rw[hc]at e;simp only at e;split at e
   ·cases e;exact (coll_orc hx hI hs hc).2.2.1
   ·cases e
theorem rdy_pc {x:Im}(hx:ImI x) {H:Nat}{s t:Vm}{n:Nat}(hI:Iv x H s) (hs:SafeAt x s.fn ((s.pc:Int) - 1)) (e:s.rdy x H n=.go t):t.pc=s.pc:=by
 unfold Vm.rdy at e;split at e
 ·cases hc:s.next.coll x H with
  | none=>rw[hc]at e;cases e
  | some u =>
   rw[hc]at e;obtain⟨i,e1,e2,_,_⟩:=coll_orc hx hI.next hs hc
   exact (rdy2_pc hx i (by rw[e1,e2];exact hs) e).trans e2
 ·exact rdy2_pc (s:=s.next) hx hI.next hs e
def TkM (C:Mx) (w:World) (iv ov:Value) (A:Nat) (Q:Ending→World→Prop) (m:Ending) (w':World):Prop :=
 ∃ v pz,m=.returned (.int .i64 v)∧OnlyL C w w'∧(∃ s' q',Mv C w' s' q' iv ov)∧(w'.cell? ⟨C.K,12,none⟩=some (.int .i64 pz)∧w'.frozen? ⟨C.K,12,none⟩=false)∧((∃ u,w'.cell? ⟨C.RB,A,none⟩=some u)∧w'.frozen? ⟨C.RB,A,none⟩=false)∧∀ w'',Later ((w'.setCell ⟨C.RB,A,none⟩ (.int .i64 v)).setCell ⟨C.K,12,none⟩ (.int .i64 (IntKind.i64.wrap (pz+1)))) w''→Q unitE w''
theorem Al.take {C:Mx}(hC:MxI C) {w:World}{s:Vm}{q:Mq}{iv ov:Value}(h:Al C w s q iv ov) (hs:SafeAt C.x s.fn ((s.pc:Int) - 1)) (hpc:q.pc+1=(s.pc:Int)) (hpb:s.pc≤6000) (hmv:s.moves≤999990) (hev:q.ev≤1000000) {hd:Int}{n A:Nat}(hn:n≤200) (hA:A<16) (hI:∀ t,s.take C.x C.H hd n A=.go t→Iv C.x C.H t) :
  Calls Tryz.prog 81 #[.pointer (some ⟨C.K,0,none⟩),.int .i64 hd,.int .i64 (n:Int)] w (TkM C w iv ov A (StM C q.ev (s.take C.x C.H hd n A))):=by
 refine (lalloc_any hC h hs (by omega) hmv hev hn).mono (fun m w' hq=>?_);obtain⟨o,hm⟩:=hq
 cases hr:s.rdy C.x C.H n with
 | fin e c t =>
  rw[hr]at hm;obtain⟨rfl,hf⟩:=hm;have hR:s.take C.x C.H hd n A=.fin e c t:=by rw[take_rdy,hr]
  obtain⟨s',q',m',r⟩:=id hf;exact⟨0,q'.pc,rfl,o,⟨_,_,m'⟩,m'.c12,⟨⟨_,(m'.reg hA).1⟩,(m'.reg hA).2⟩,fun w'' l=>st_finM hR (((hf.regs hC hA 0).pcs hC _).kept l)⟩
 | go t =>
  rw[hr]at hm;obtain⟨rfl,W,m',ag,ho,hrm⟩:=hm;have hR:s.take C.x C.H hd n A=.go (t.put hd n A):=by rw[take_rdy,hr]
  have hpt:=rdy_pc hC.xi h.iv hs hr;refine⟨_,q.pc,rfl,o,⟨_,_,m'⟩,m'.c12,⟨⟨_,(m'.reg hA).1⟩,(m'.reg hA).2⟩,fun w'' l=>?_⟩;have hw:IntKind.i64.wrap (q.pc+1)=(s.pc:Int):=by rw[IntKind.wrap_i64];omega
  rw[hw]at l;have m2:=(m'.setR hC hA (t.free:Int)).pcs hC (s.pc:Int);have hi:=hI _ hR;exact st_goM hR (q':={ q with W:=W,ev:=q.ev+1,pc:=(s.pc:Int) }) ⟨m2.kept l,ag,hi,h.en,h.cd,ho⟩ (by show (s.pc:Int)=(t.pc:Int);rw[hpt]) (Nat.le_refl _)
theorem LkQ.none {C:Mx}{w:World}{s:Vm}{q:Mq}{iv ov:Value}{d:Int}{o:Option Int}{n:Ending}{w':World}(h:LkQ C w s q iv ov d o n w') (e:o=none):n=.returned (.int .i64 d)∧Mv C w' s (q.stop 7 0) iv ov∧OnlyL C w w':=by rw[e]at h;exact h
theorem LkQ.some {C:Mx}{w:World}{s:Vm}{q:Mq}{iv ov:Value}{d:Int}{o:Option Int}{n:Ending}{w':World}(h:LkQ C w s q iv ov d o n w') {v:Int}(e:o=some v):n=.returned (.int .i64 v)∧Later w w':=by rw[e]at h;exact h
theorem fld_objO {x:Im}{H:Nat}{s:Vm}{z k:Int}(hk:0≤k):objO x H s z k false=Option.map (fun a:Nat=>(a:Int)) (s.fld x H z k):=by
 unfold objO Vm.fld;by_cases ho:s.obj H z=true
 ·by_cases h8:s.W z.toNat % 8=0
  ·rw[szW_str h8];by_cases hl:k<((stAt x (s.W z.toNat / 8).toNat).length:Int)
   ·rw[if_pos ⟨ho,by simp[h8],hk,hl⟩,if_pos (by simp[ho,h8,hl])];rfl
   ·rw[if_neg (fun q=>hl q.2.2.2),if_neg (by simp[ho,h8,hl])];rfl
  ·rw[if_neg (fun q=>by have:=q.2.1;simp at this;exact h8 this),if_neg (by simp[h8])];rfl
 ·rw[if_neg (fun q=>ho q.1),if_neg (by simp[ho])];rfl
theorem elm_objO {x:Im}{H:Nat}{s:Vm}{z k:Int}(hu:0<s.used):objO x H s z k true=Option.map (fun a:Nat=>(a:Int)) (s.elm H z k):=by
 unfold objO Vm.elm Vm.len;by_cases hz:z=0
 ·have ho:s.obj H z=false:=by
   unfold Vm.obj;rw[decide_eq_false (by omega)];rfl
  rw[if_neg (by rw[ho];simp)];simp only[if_pos hz];rw[if_neg (by omega)];rfl
 ·simp only[if_neg hz];by_cases ho:s.obj H z=true
  ·by_cases h8:s.W z.toNat % 8=0
   ·rw[if_neg (fun q=>by have:=q.2.1;simp[h8]at this),ho,h8];rfl
   ·have hb:(s.obj H z&&(s.W z.toNat % 8 != 0))=true:=by simp[ho,h8]
    rw[if_pos hb,szW_list h8];by_cases hl:0≤k∧k<s.W z.toNat / 8
    ·rw[if_pos ⟨ho,by simp[h8],hl.1,by omega⟩];show _=Option.map _ (if 0≤k∧k<s.W z.toNat / 8 then some (z.toNat+1+k.toNat) else none);rw[if_pos hl];rfl
    ·rw[if_neg (fun q=>hl ⟨q.2.2.1,by have:=q.2.2.2;omega⟩)];show _=Option.map _ (if 0≤k∧k<s.W z.toNat / 8 then some (z.toNat+1+k.toNat) else none);rw[if_neg hl];rfl
  ·have hb:(s.obj H z&&(s.W z.toNat % 8 != 0))=false:=by simp[ho]
   rw[if_neg (fun q=>ho q.1),hb];rfl
theorem en_obj:Enters Tryz.prog 82:=enters_of Tryz.func82 (by kernel_rfl) (by kernel_rfl)
theorem en_alloc:Enters Tryz.prog 81:=enters_of Tryz.func81 (by kernel_rfl) (by kernel_rfl)
theorem en_len:Enters Tryz.prog 52:=enters_of Tryz.func52 (by kernel_rfl) (by kernel_rfl)
theorem stop_pc {q:Mq}{e c:Int}:(q.stop e c).pc=q.pc:=by unfold Mq.stop;split <;> rfl
end Go.Proofs.YtjnpncefkigcbaaGreat
