import Derived.Test.YtjnpncefkigcbaaGreatIt
set_option maxHeartbeats 100000000
set_option maxRecDepth 100000
namespace Go.Proofs.YtjnpncefkigcbaaGreat
open Go.RowKit Go.Lib Go.Maps
theorem en_sArith:Enters Tryz.prog 48:=enters_of Tryz.func48 (by kernel_rfl) (by kernel_rfl)
theorem sp5_any {C:Mx}(hC:MxI C) {w:World}{s0 s:Vm}{q:Mq}{iv ov:Value}(h:Al C w s0 q iv ov) (hs:s=s0.tick) (hpc:q.pc=(s0.pc:Int)) (hpb:s0.pc+1≤6000) (hst:s0.steps≤1000000) {A B D:Nat}(hA:A<16) (hB:B<16) (hD:D<16) (n:Int) (hi:(cdAt C.x s0.fn).ins[s0.pc]?=some ⟨5,(A:Int),(B:Int),(D:Int),n⟩) :
  Calls Tryz.prog 24 #[.pointer (some ⟨C.K,0,none⟩)] w (StM C q.ev (.go (s.set (A:Int) (arOut n (fb (s.rg B)) (fb (s.rg D)))))):=by
 obtain⟨pv,ia,ic,ma,mn,mc,hcs,hci⟩:=code4 hC h.iv.fn;obtain⟨ig,io,rfl,hig,hcells⟩:=hci s0.pc _ hi;obtain⟨k1,k2,k3,k4⟩:=h.mv.lts
 have hpl:s0.pc<(cdAt C.x s0.fn).ins.length:=by
  rcases Nat.lt_or_ge s0.pc (cdAt C.x s0.fn).ins.length with k|k
  ·exact k
  ·rw[List.getElem?_eq_none k]at hi;cases hi
 have hfn:=h.iv.fn
 obtain⟨FR,hFR⟩:∃ FR,FR=frN C.x s0.fn:=⟨_,rfl⟩
 obtain⟨L,hL⟩:∃ L,L=(cdAt C.x s0.fn).ins.length:=⟨_,rfl⟩
 rw[←hL]at hcs hpl;rw[←hFR]at hcs;obtain⟨q1,q2,q3,q4⟩:=hcs w h.mv.lat;have c1:=h.mv.c1.1;have c11:=h.mv.c11.1;have j1:(s0.fn:Int)<(C.x.codes.length:Int):=by omega
 have hcg:C.cg<w.heap.size:=Nat.lt_of_lt_of_le (code_lt hC hfn) h.mv.lat.size;have hig1:ig<w.heap.size:=Nat.lt_of_lt_of_le hig h.mv.lat.size
 have HK:Hid (∀ w',Later w w'→Al C w' s0 q iv ov∧(w'.cell? ⟨ig,io+s0.pc*5,none⟩=some (.int .i64 (5))∧w'.cell? ⟨ig,io+s0.pc*5+1,none⟩=some (.int .i64 (A:Int))∧w'.cell? ⟨ig,io+s0.pc*5+2,none⟩=some (.int .i64 (B:Int))∧w'.cell? ⟨ig,io+s0.pc*5+3,none⟩=some (.int .i64 (D:Int))∧w'.cell? ⟨ig,io+s0.pc*5+4,none⟩=some (.int .i64 n))):=fun w' l=>⟨h.kept l,hcells w' (h.mv.lat.trans l)⟩
 generalize hQ:StM C q.ev (.go (s.set (A:Int) (arOut n (fb (s.rg B)) (fb (s.rg D)))))=Q at *
 have HQ:Hid (Q=StM C q.ev (.go (s.set (A:Int) (arOut n (fb (s.rg B)) (fb (s.rg D)))))):=hQ.symm
 have HP:Hid (q.pc+1=(s.pc:Int)∧s.pc≤6000):=by
  rw[hs];exact⟨by rw[hpc];rfl,hpb⟩
 have HSt:Hid (s=s0.tick∧FR=frN C.x s0.fn):=⟨hs,hFR⟩
 clear hQ h hi hcells hci hcs hL hFR hs;go_enter Tryz.func24,Tryz.ntmps24;go_wp2_with fail
 go_region
 obtain⟨w1,hw1⟩:=hidx (w.alloc (Obj.cells #[.int .i64 (FR:Int),.int .i64 pv,.slice (some ⟨ig,io,none⟩) L ic,.slice ma mn mc] 61)).drew;rw[←hw1.out];have l1:Later w w1:=by rw[hw1.out];exact later_ad _ _
 have HB1:Hid (∀ w',Later w1 w'→w'.cell? ⟨w.heap.size,0,none⟩=some (.int .i64 (FR:Int))∧w'.cell? ⟨w.heap.size,1,none⟩=some (.int .i64 pv)∧w'.cell? ⟨w.heap.size,2,none⟩=some (.slice (some ⟨ig,io,none⟩) L ic)∧w'.cell? ⟨w.heap.size,3,none⟩=some (.slice ma mn mc)):=fun w' l=>by
  have hlt:w.heap.size<w1.heap.size:=by rw[hw1.out];exact box_lt w _
  refine⟨?_,?_,?_,?_⟩
  ·rw[Below.cell l (p:=⟨w.heap.size,0,none⟩) hlt,hw1.out];exact box_at w _ rfl
  ·rw[Below.cell l (p:=⟨w.heap.size,1,none⟩) hlt,hw1.out];exact box_at w _ rfl
  ·rw[Below.cell l (p:=⟨w.heap.size,2,none⟩) hlt,hw1.out];exact box_at w _ rfl
  ·rw[Below.cell l (p:=⟨w.heap.size,3,none⟩) hlt,hw1.out];exact box_at w _ rfl
 have HN1:Hid (C.K<w.heap.size∧C.WB<w.heap.size∧C.SB<w.heap.size∧C.RB<w.heap.size∧w.heap.size<w1.heap.size):=⟨k1,k2,k3,k4,by rw[hw1.out];exact box_lt w _⟩
 have hK1:=fun w' (l:Later w1 w')=>HK.out w' (l1.trans l);have HK1:Hid (∀ w',Later w1 w'→Al C w' s0 q iv ov∧(w'.cell? ⟨ig,io+s0.pc*5,none⟩=some (.int .i64 (5))∧w'.cell? ⟨ig,io+s0.pc*5+1,none⟩=some (.int .i64 (A:Int))∧w'.cell? ⟨ig,io+s0.pc*5+2,none⟩=some (.int .i64 (B:Int))∧w'.cell? ⟨ig,io+s0.pc*5+3,none⟩=some (.int .i64 (D:Int))∧w'.cell? ⟨ig,io+s0.pc*5+4,none⟩=some (.int .i64 n))):=hK1;have hig2:ig<w1.heap.size:=Nat.lt_of_lt_of_le hig1 l1.size;have hB1:w.heap.size<w1.heap.size:=HN1.out.2.2.2.2;clear hK1 HK l1 hw1 q1 q2 q3 q4 c1 c11 j1 k1 k2 k3 k4 hig hfn hcg hig1
 generalize w.heap.size=B1 at *
 obtain⟨al1,e0,e1,e2,e3,e4⟩:=HK1.out w1 (Later.refl _);obtain⟨m0,m1,m2,m3⟩:=HB1.out w1 (Later.refl _);have d12:=al1.mv.c12.1;rw[hpc]at d12;have lts:=al1.mv.lts;have hk1:=lts.1;have g0:¬ (s0.pc:Int)<0:=by omega
 have g1:decide ((s0.pc:Int)<0)=false:=decide_eq_false g0;have g2:¬ (L:Int)≤(s0.pc:Int):=by omega
 have g3:decide ((L:Int)≤(s0.pc:Int))=false:=decide_eq_false g2;have g4:(s0.pc:Int)<(L:Int):=by omega
 clear al1;go_wp2_with fail
 go_quiet (fail)
 go_wp2_with fail
 obtain⟨wq,hwq⟩:=hidx (w1.drewN nq);rw[←hwq.out];have lq:Later w1 wq:=by rw[hwq.out];exact Later.drewN' _ _
 have hsq:w1.heap.size≤wq.heap.size:=lq.size;clear hwq e0 e1 e2 e3 e4 m0 m1 m2 m3 d12 hk1 lts;obtain⟨alq,e0,e1,e2,e3,e4⟩:=HK1.out wq lq;obtain⟨m0,m1,m2,m3⟩:=HB1.out wq lq;have d12:=alq.mv.c12.1;rw[hpc]at d12;have lts:=alq.mv.lts;have hk1:=lts.1;have hig3:ig<wq.heap.size:=by omega
 have hBq:B1<wq.heap.size:=by omega
 clear alq hig2 hB1;go_region
 obtain⟨w2,hw2⟩:=hidx (wq.alloc (Obj.cells #[.int .i64 (5),.int .i64 (A:Int),.int .i64 (B:Int),.int .i64 (D:Int),.int .i64 n] 97)).drew;rw[←hw2.out]
 obtain⟨t1,ht1⟩:∃ t1,t1=s0.steps+1:=⟨_,rfl⟩
 have l2:Later w1 w2:=lq.trans (by rw[hw2.out];exact later_ad _ _);obtain⟨al2,_⟩:=HK1.out w2 l2
 have HB:Hid ((Bx2 C B1 wq.heap.size (FR:Int) (5) (A:Int) (B:Int) (D:Int) n (w2.setCell ⟨C.K,19,none⟩ (.int .i64 (t1:Int)))∧Al C (w2.setCell ⟨C.K,19,none⟩ (.int .i64 (t1:Int))) s q iv ov)∧((w2.setCell ⟨C.K,19,none⟩ (.int .i64 (t1:Int))).cell? ⟨B1,1,none⟩=some (.int .i64 pv)∧(w2.setCell ⟨C.K,19,none⟩ (.int .i64 (t1:Int))).cell? ⟨B1,2,none⟩=some (.slice (some ⟨ig,io,none⟩) L ic)∧(w2.setCell ⟨C.K,19,none⟩ (.int .i64 (t1:Int))).cell? ⟨B1,3,none⟩=some (.slice ma mn mc))):=by
  obtain⟨n1,n2,n3,n4,n5⟩:=HN1.out;obtain⟨f1,f2,f3,f4⟩:=lts;obtain⟨r0,r1,r2,r3⟩:=HB1.out w2 l2;have hb:∀ j v,(#[.int .i64 (5),.int .i64 (A:Int),.int .i64 (B:Int),.int .i64 (D:Int),.int .i64 n]:Array Value)[j]?=some v→w2.cell? ⟨wq.heap.size,j,none⟩=some v:=fun j v hj=>by rw[hw2.out];exact box_at wq _ hj
  have hs2:wq.heap.size<w2.heap.size:=by rw[hw2.out];exact box_lt wq _
  refine⟨⟨⟨by rw[World.size_setCell];omega,by rw[World.size_setCell];omega,⟨by omega,by omega,by omega,by omega⟩,⟨by omega,by omega,by omega,by omega⟩,?_,?_,?_,?_,?_,?_⟩,?_⟩,?_,?_,?_⟩
  ·rw[set_far' (by omega)];exact r0
  ·rw[set_far' (by omega)];exact hb 0 _ rfl
  ·rw[set_far' (by omega)];exact hb 1 _ rfl
  ·rw[set_far' (by omega)];exact hb 2 _ rfl
  ·rw[set_far' (by omega)];exact hb 3 _ rfl
  ·rw[set_far' (by omega)];exact hb 4 _ rfl
  ·rw[HSt.out.1];exact al2.tick hC ht1
  ·rw[set_far' (by omega)];exact r1
  ·rw[set_far' (by omega)];exact r2
  ·rw[set_far' (by omega)];exact r3
 obtain⟨d19,z19⟩:=al2.mv.c19;have d14:=al2.mv.c14.1;have o0:w2.cell? ⟨wq.heap.size,0,none⟩=some (.int .i64 (5)):=by rw[hw2.out];exact box_at wq _ rfl
 have nK1:¬ C.K=wq.heap.size:=by have:=lts.1;omega
 have g5:(s0.steps:Int)+1=(t1:Int):=by omega
 have g6:(t1:Int)≤1000001:=by omega
 clear al2 HN1 HK1 HB1 l2 hw2 ht1 lts e0 e1 e2 e3 e4 m0 m1 m2 m3 d12 g0 g1 g2 g3 g4 hpc hpb hpl hig3 hBq hk1 lq hsq;go_upto_if 58 with fail
 revert HB
 generalize (w2.setCell ⟨C.K,19,none⟩ (.int .i64 (t1:Int)))=wx
 generalize wq.heap.size=B2
 intro HB;clear d19 z19 d14 o0 nK1 g5 g6;have bx:=HB.out.1.1;have al:=HB.out.1.2;have bx3:=HB.out.2;have hQ:=HQ.out;have hP:=HP.out;have hS:=HSt.out;have i12:=al.mv.c12.1;have z12:=al.mv.c12.2;clear HQ HP HB HSt;have p1:=hP.1;have p2:=hP.2;have p3:(s.pc:Int)≤6000:=by omega
 have p4:-10≤q.pc:=by omega
 have p5:q.pc≤6000:=by omega
 have nK:¬ B2=C.K:=bx.n2.1;have nR:¬ B2=C.RB:=bx.n2.2.2.2;have nW:¬ B2=C.WB:=bx.n2.2.1;obtain⟨rA,zA⟩:=al.mv.reg hA;have xA:(A:Int)<16:=by omega
 obtain⟨rB,zB⟩:=al.mv.reg hB;have xB:(B:Int)<16:=by omega
 obtain⟨rD,zD⟩:=al.mv.reg hD;have xD:(D:Int)<16:=by omega
 have ba:=bx.a;have bb:=bx.b;have bc:=bx.c;have bn:=bx.n;have x3:=hC.d3;have HL:Hid (∀ w',Later wx w'→Calls Tryz.prog 48 #[.int .i64 n,.int .i64 (s.rg B),.int .i64 (s.rg D)] w' (fun e w''=>∃ v,e=.returned v∧v=.int .i64 (arOut n (fb (s.rg B)) (fb (s.rg D)))∧Later wx w'')):=fun w' l=>(sarith_any n (s.rg B) (s.rg D) w').mono (fun e w'' q=>⟨_,q.1,rfl,l.trans q.2⟩)
 have HSl:Hid (∀ w',Later wx w'→w'.cell? ⟨B2,1,none⟩=some (.int .i64 (A:Int))∧w'.cell? ⟨B2,2,none⟩=some (.int .i64 (B:Int))∧w'.cell? ⟨B2,3,none⟩=some (.int .i64 (D:Int))∧w'.cell? ⟨B2,4,none⟩=some (.int .i64 n)):=fun w' l=>⟨(bx.kept l).a,(bx.kept l).b,(bx.kept l).c,(bx.kept l).n⟩
 have HSs:Hid (∀ w' o v,Later wx w'→(w'.setCell ⟨C.RB,o,none⟩ v).cell? ⟨B2,1,none⟩=some (.int .i64 (A:Int))∧(w'.setCell ⟨C.RB,o,none⟩ v).cell? ⟨B2,2,none⟩=some (.int .i64 (B:Int))∧(w'.setCell ⟨C.RB,o,none⟩ v).cell? ⟨B2,3,none⟩=some (.int .i64 (D:Int))∧(w'.setCell ⟨C.RB,o,none⟩ v).cell? ⟨B2,4,none⟩=some (.int .i64 n)):=fun w' o v l=>⟨(bx.far l o v).a,(bx.far l o v).b,(bx.far l o v).c,(bx.far l o v).n⟩
 have HF:Hid (∀ w',Later wx w'→(w'.cell? ⟨C.RB,A,none⟩=some (.int .i64 (s.rg A))∧w'.frozen? ⟨C.RB,A,none⟩=false)∧w'.cell? ⟨C.K,12,none⟩=some (.int .i64 q.pc)∧w'.frozen? ⟨C.K,12,none⟩=false):=fun w' l=>⟨(al.mv.kept l).reg hA,(al.mv.kept l).c12⟩
 have HZ:Hid (∀ w' w'',Later wx w'→Later ((w'.setCell ⟨C.RB,A,none⟩ (.int .i64 (arOut n (fb (s.rg B)) (fb (s.rg D))))).setCell ⟨C.K,12,none⟩ (.int .i64 (s.pc:Int))) w''→Q unitE w''):=fun w' w'' l l2=>by
  rw[hQ];exact ((al.kept l).reg1 hC hA (arOut n (fb (s.rg B)) (fb (s.rg D)))).go1 hC (rfl) rfl (Nat.le_succ _) l2
 have hS0:=HSl.out _ (Later.drew wx)
 generalize arOut n (fb (s.rg B)) (fb (s.rg D))=ZZ at *
 clear al bx bx3 hQ hP hS;unfold unitE at HZ;go_wp2_with fail
 refine wp_region_held_drew (S:=fun w'=>w'.cell? ⟨B2,1,none⟩=some (.int .i64 (A:Int))∧w'.cell? ⟨B2,2,none⟩=some (.int .i64 (B:Int))∧w'.cell? ⟨B2,3,none⟩=some (.int .i64 (D:Int))∧w'.cell? ⟨B2,4,none⟩=some (.int .i64 n)) (by kernel_rfl) (by exact hS0) (fun hHeld=>?_);refine tk 0 (.slice (some ⟨C.RB,0,none⟩) 16 16) rfl ?_;(try go_simp);refine tk 1 (.pointer (some ⟨B2,1,none⟩)) rfl ?_;(try go_simp);refine tk 2 (.int .i64 ((A:Int))) rfl ?_;(try go_simp);refine tk 3 (.pointer (some ⟨B2,4,none⟩)) rfl ?_;(try go_simp);refine tk 4 (.int .i64 (n)) rfl ?_;(try go_simp);refine tk 5 (.slice (some ⟨C.RB,0,none⟩) 16 16) rfl ?_;(try go_simp);refine tk 6 (.pointer (some ⟨B2,2,none⟩)) rfl ?_;(try go_simp);refine tk 7 (.int .i64 ((B:Int))) rfl ?_;(try go_simp);refine tk 8 (.pointer (some ⟨C.RB,B,none⟩)) rfl ?_;(try go_simp);refine tk 10 (.slice (some ⟨C.RB,0,none⟩) 16 16) rfl ?_;(try go_simp);refine tk 11 (.pointer (some ⟨B2,3,none⟩)) rfl ?_;(try go_simp);refine tk 12 (.int .i64 ((D:Int))) rfl ?_;(try go_simp);refine tk 13 (.pointer (some ⟨C.RB,D,none⟩)) rfl ?_;(try go_simp);refine wpAnyH_ready (rs:=[9,14]) (by kernel_rfl) (by simp) ?_;refine (AllReadyH.cons rfl (fun K hK=>?_) (AllReadyH.cons rfl (fun K hK=>?_) AllReadyH.nil))
 ·go_simp;refine hK.out _ _ ?_ (fun hHeld=>?_)
  ·first|assumption|(go_keep;done)|exact HSl.out _ l1|exact HSs.out _ _ _ l1
  clear hK K;(try go_simp);refine rd1 14 rfl fun K hK=>?_;go_simp;refine hK.out _ _ ?_ (fun hHeld=>?_)
  ·first|assumption|(go_keep;done)|exact HSl.out _ l1|exact HSs.out _ _ _ l1
  clear hK K;(try go_simp);refine rd1 15 rfl fun K hK=>?_;refine step_call rfl 48 en_sArith _ _ rfl [.int .i64 n,.int .i64 (s.rg B),.int .i64 (s.rg D)] rfl (fun v w'=>v=.int .i64 ZZ∧Later wx w') (HL.out _ (Later.drew _)) ?_;intro u2 w1 hc2;obtain⟨rfl,l1⟩:=hc2;obtain⟨⟨f1,f2⟩,j12,y12⟩:=HF.out w1 l1;refine hK.out _ _ ?_ (fun hHeld=>?_)
  ·first|assumption|(go_keep;done)|exact HSl.out _ l1|exact HSs.out _ _ _ l1
  clear hK K;(try go_simp);refine tk 16 (.pointer (some ⟨C.RB,A,none⟩)) rfl ?_;(try go_simp);refine rd1 17 rfl fun K hK=>?_;go_simp;refine hK.out _ _ ?_ (fun hHeld=>?_)
  ·first|assumption|(go_keep;done)|exact HSl.out _ l1|exact HSs.out _ _ _ l1
  clear hK K;(try go_simp);refine wpAnyH_done (by kernel_rfl) ?_ _;clear HL HSl HSs HF hS0 i12 z12 rA zA rB zB rD zD;go_wp2_with fail
  first|exact HZ.out w1 _ l1 (by first|exact Later.refl _|exact Later.drew _|exact (Later.drew _).trans (Later.drew _)|exact Later.drewN' _ _)|(go_end0;exact HZ.out w1 _ l1 (by first|exact Later.refl _|exact Later.drew _|exact (Later.drew _).trans (Later.drew _)|exact Later.drewN' _ _))
 ·go_simp;refine hK.out _ _ ?_ (fun hHeld=>?_)
  ·first|assumption|(go_keep;done)|exact HSl.out _ l1|exact HSs.out _ _ _ l1
  clear hK K;(try go_simp);refine rd1 9 rfl fun K hK=>?_;go_simp;refine hK.out _ _ ?_ (fun hHeld=>?_)
  ·first|assumption|(go_keep;done)|exact HSl.out _ l1|exact HSs.out _ _ _ l1
  clear hK K;(try go_simp);refine rd1 15 rfl fun K hK=>?_;refine step_call rfl 48 en_sArith _ _ rfl [.int .i64 n,.int .i64 (s.rg B),.int .i64 (s.rg D)] rfl (fun v w'=>v=.int .i64 ZZ∧Later wx w') (HL.out _ (Later.drew _)) ?_;intro u2 w1 hc2;obtain⟨rfl,l1⟩:=hc2;obtain⟨⟨f1,f2⟩,j12,y12⟩:=HF.out w1 l1;refine hK.out _ _ ?_ (fun hHeld=>?_)
  ·first|assumption|(go_keep;done)|exact HSl.out _ l1|exact HSs.out _ _ _ l1
  clear hK K;(try go_simp);refine tk 16 (.pointer (some ⟨C.RB,A,none⟩)) rfl ?_;(try go_simp);refine rd1 17 rfl fun K hK=>?_;go_simp;refine hK.out _ _ ?_ (fun hHeld=>?_)
  ·first|assumption|(go_keep;done)|exact HSl.out _ l1|exact HSs.out _ _ _ l1
  clear hK K;(try go_simp);refine wpAnyH_done (by kernel_rfl) ?_ _;clear HL HSl HSs HF hS0 i12 z12 rA zA rB zB rD zD;go_wp2_with fail
  first|exact HZ.out w1 _ l1 (by first|exact Later.refl _|exact Later.drew _|exact (Later.drew _).trans (Later.drew _)|exact Later.drewN' _ _)|(go_end0;exact HZ.out w1 _ l1 (by first|exact Later.refl _|exact Later.drew _|exact (Later.drew _).trans (Later.drew _)|exact Later.drewN' _ _))
theorem Al.len {C:Mx}(hC:MxI C) {wx w:World}{s:Vm}{q:Mq}{iv ov:Value}(al:Al C wx s q iv ov) (l:Later wx w) (hpc:q.pc+1=(s.pc:Int)) (hpb:s.pc≤6000) {A:Nat}(hA:A<16) {z:Int}{r:St}(h0:s.len C.H z=none→r=.fin 7 0 s) (h1:∀ n,s.len C.H z=some n→r=.go (s.set (A:Int) n)) :
  Calls Tryz.prog 52 #[.pointer (some ⟨C.K,0,none⟩),.int .i64 z] w (TkM C wx iv ov A (StM C q.ev r)):=by
 refine (llen_any hC (al.kept l) z).mono (fun m w' hq=>?_)
 cases hl:s.len C.H z with
 | none =>
  obtain⟨rfl,m1,o1⟩:=hq.none hl;have c12:=m1.c12;rw[stop_pc]at c12;exact⟨0,q.pc,rfl,(OnlyL.of_later l).trans o1,⟨_,_,m1⟩,c12,⟨⟨_,(m1.reg hA).1⟩,(m1.reg hA).2⟩,fun w'' l2=>st_finM (h0 hl) ((((al.stop m1).regs hC hA 0).pcs hC _).kept l2)⟩
 | some n =>
  obtain⟨rfl,l1⟩:=hq.some hl;have l2:=l.trans l1;have m1:=al.mv.kept l2;refine⟨n,q.pc,rfl,OnlyL.of_later l2,⟨_,_,m1⟩,m1.c12,⟨⟨_,(m1.reg hA).1⟩,(m1.reg hA).2⟩,fun w'' l3=>?_⟩;have hw:IntKind.i64.wrap (q.pc+1)=(s.pc:Int):=by rw[IntKind.wrap_i64];omega
  rw[hw]at l3;exact ((al.kept l2).reg1 hC hA n).go1 hC (h1 n hl) rfl (Nat.le_succ _) l3
theorem sp9_any {C:Mx}(hC:MxI C) {w:World}{s0 s:Vm}{q:Mq}{iv ov:Value}(h:Al C w s0 q iv ov) (hs:s=s0.tick) (hpc:q.pc=(s0.pc:Int)) (hpb:s0.pc+1≤6000) (hst:s0.steps≤1000000) {A B:Nat}(hA:A<16) (hB:B<16) (r:St) (h0:s.len C.H (s.rg B)=none→r=.fin 7 0 s) (h1:∀ z,s.len C.H (s.rg B)=some z→r=.go (s.set (A:Int) z)) (c n:Int) (hi:(cdAt C.x s0.fn).ins[s0.pc]?=some ⟨9,(A:Int),(B:Int),c,n⟩) :
  Calls Tryz.prog 24 #[.pointer (some ⟨C.K,0,none⟩)] w (StM C q.ev (r)):=by
 obtain⟨pv,ia,ic,ma,mn,mc,hcs,hci⟩:=code4 hC h.iv.fn;obtain⟨ig,io,rfl,hig,hcells⟩:=hci s0.pc _ hi;obtain⟨k1,k2,k3,k4⟩:=h.mv.lts
 have hpl:s0.pc<(cdAt C.x s0.fn).ins.length:=by
  rcases Nat.lt_or_ge s0.pc (cdAt C.x s0.fn).ins.length with k|k
  ·exact k
  ·rw[List.getElem?_eq_none k]at hi;cases hi
 have hfn:=h.iv.fn
 obtain⟨FR,hFR⟩:∃ FR,FR=frN C.x s0.fn:=⟨_,rfl⟩
 obtain⟨L,hL⟩:∃ L,L=(cdAt C.x s0.fn).ins.length:=⟨_,rfl⟩
 rw[←hL]at hcs hpl;rw[←hFR]at hcs;obtain⟨q1,q2,q3,q4⟩:=hcs w h.mv.lat;have c1:=h.mv.c1.1;have c11:=h.mv.c11.1;have j1:(s0.fn:Int)<(C.x.codes.length:Int):=by omega
 have hcg:C.cg<w.heap.size:=Nat.lt_of_lt_of_le (code_lt hC hfn) h.mv.lat.size;have hig1:ig<w.heap.size:=Nat.lt_of_lt_of_le hig h.mv.lat.size
 have HK:Hid (∀ w',Later w w'→Al C w' s0 q iv ov∧(w'.cell? ⟨ig,io+s0.pc*5,none⟩=some (.int .i64 (9))∧w'.cell? ⟨ig,io+s0.pc*5+1,none⟩=some (.int .i64 (A:Int))∧w'.cell? ⟨ig,io+s0.pc*5+2,none⟩=some (.int .i64 (B:Int))∧w'.cell? ⟨ig,io+s0.pc*5+3,none⟩=some (.int .i64 c)∧w'.cell? ⟨ig,io+s0.pc*5+4,none⟩=some (.int .i64 n))):=fun w' l=>⟨h.kept l,hcells w' (h.mv.lat.trans l)⟩
 generalize hQ:StM C q.ev (r)=Q at *
 have HQ:Hid (Q=StM C q.ev (r)):=hQ.symm
 have HP:Hid (q.pc+1=(s.pc:Int)∧s.pc≤6000):=by
  rw[hs];exact⟨by rw[hpc];rfl,hpb⟩
 have HSt:Hid (s=s0.tick∧FR=frN C.x s0.fn):=⟨hs,hFR⟩
 clear hQ h hi hcells hci hcs hL hFR hs;go_enter Tryz.func24,Tryz.ntmps24;go_wp2_with fail
 go_region
 obtain⟨w1,hw1⟩:=hidx (w.alloc (Obj.cells #[.int .i64 (FR:Int),.int .i64 pv,.slice (some ⟨ig,io,none⟩) L ic,.slice ma mn mc] 61)).drew;rw[←hw1.out];have l1:Later w w1:=by rw[hw1.out];exact later_ad _ _
 have HB1:Hid (∀ w',Later w1 w'→w'.cell? ⟨w.heap.size,0,none⟩=some (.int .i64 (FR:Int))∧w'.cell? ⟨w.heap.size,1,none⟩=some (.int .i64 pv)∧w'.cell? ⟨w.heap.size,2,none⟩=some (.slice (some ⟨ig,io,none⟩) L ic)∧w'.cell? ⟨w.heap.size,3,none⟩=some (.slice ma mn mc)):=fun w' l=>by
  have hlt:w.heap.size<w1.heap.size:=by rw[hw1.out];exact box_lt w _
  refine⟨?_,?_,?_,?_⟩
  ·rw[Below.cell l (p:=⟨w.heap.size,0,none⟩) hlt,hw1.out];exact box_at w _ rfl
  ·rw[Below.cell l (p:=⟨w.heap.size,1,none⟩) hlt,hw1.out];exact box_at w _ rfl
  ·rw[Below.cell l (p:=⟨w.heap.size,2,none⟩) hlt,hw1.out];exact box_at w _ rfl
  ·rw[Below.cell l (p:=⟨w.heap.size,3,none⟩) hlt,hw1.out];exact box_at w _ rfl
 have HN1:Hid (C.K<w.heap.size∧C.WB<w.heap.size∧C.SB<w.heap.size∧C.RB<w.heap.size∧w.heap.size<w1.heap.size):=⟨k1,k2,k3,k4,by rw[hw1.out];exact box_lt w _⟩
 have hK1:=fun w' (l:Later w1 w')=>HK.out w' (l1.trans l);have HK1:Hid (∀ w',Later w1 w'→Al C w' s0 q iv ov∧(w'.cell? ⟨ig,io+s0.pc*5,none⟩=some (.int .i64 (9))∧w'.cell? ⟨ig,io+s0.pc*5+1,none⟩=some (.int .i64 (A:Int))∧w'.cell? ⟨ig,io+s0.pc*5+2,none⟩=some (.int .i64 (B:Int))∧w'.cell? ⟨ig,io+s0.pc*5+3,none⟩=some (.int .i64 c)∧w'.cell? ⟨ig,io+s0.pc*5+4,none⟩=some (.int .i64 n))):=hK1;have hig2:ig<w1.heap.size:=Nat.lt_of_lt_of_le hig1 l1.size;have hB1:w.heap.size<w1.heap.size:=HN1.out.2.2.2.2;clear hK1 HK l1 hw1 q1 q2 q3 q4 c1 c11 j1 k1 k2 k3 k4 hig hfn hcg hig1
 generalize w.heap.size=B1 at *
 obtain⟨al1,e0,e1,e2,e3,e4⟩:=HK1.out w1 (Later.refl _);obtain⟨m0,m1,m2,m3⟩:=HB1.out w1 (Later.refl _);have d12:=al1.mv.c12.1;rw[hpc]at d12;have lts:=al1.mv.lts;have hk1:=lts.1;have g0:¬ (s0.pc:Int)<0:=by omega
 have g1:decide ((s0.pc:Int)<0)=false:=decide_eq_false g0;have g2:¬ (L:Int)≤(s0.pc:Int):=by omega
 have g3:decide ((L:Int)≤(s0.pc:Int))=false:=decide_eq_false g2;have g4:(s0.pc:Int)<(L:Int):=by omega
 clear al1;go_wp2_with fail
 go_quiet (fail)
 go_wp2_with fail
 obtain⟨wq,hwq⟩:=hidx (w1.drewN nq);rw[←hwq.out];have lq:Later w1 wq:=by rw[hwq.out];exact Later.drewN' _ _
 have hsq:w1.heap.size≤wq.heap.size:=lq.size;clear hwq e0 e1 e2 e3 e4 m0 m1 m2 m3 d12 hk1 lts;obtain⟨alq,e0,e1,e2,e3,e4⟩:=HK1.out wq lq;obtain⟨m0,m1,m2,m3⟩:=HB1.out wq lq;have d12:=alq.mv.c12.1;rw[hpc]at d12;have lts:=alq.mv.lts;have hk1:=lts.1;have hig3:ig<wq.heap.size:=by omega
 have hBq:B1<wq.heap.size:=by omega
 clear alq hig2 hB1;go_region
 obtain⟨w2,hw2⟩:=hidx (wq.alloc (Obj.cells #[.int .i64 (9),.int .i64 (A:Int),.int .i64 (B:Int),.int .i64 c,.int .i64 n] 97)).drew;rw[←hw2.out]
 obtain⟨t1,ht1⟩:∃ t1,t1=s0.steps+1:=⟨_,rfl⟩
 have l2:Later w1 w2:=lq.trans (by rw[hw2.out];exact later_ad _ _);obtain⟨al2,_⟩:=HK1.out w2 l2
 have HB:Hid ((Bx2 C B1 wq.heap.size (FR:Int) (9) (A:Int) (B:Int) c n (w2.setCell ⟨C.K,19,none⟩ (.int .i64 (t1:Int)))∧Al C (w2.setCell ⟨C.K,19,none⟩ (.int .i64 (t1:Int))) s q iv ov)∧((w2.setCell ⟨C.K,19,none⟩ (.int .i64 (t1:Int))).cell? ⟨B1,1,none⟩=some (.int .i64 pv)∧(w2.setCell ⟨C.K,19,none⟩ (.int .i64 (t1:Int))).cell? ⟨B1,2,none⟩=some (.slice (some ⟨ig,io,none⟩) L ic)∧(w2.setCell ⟨C.K,19,none⟩ (.int .i64 (t1:Int))).cell? ⟨B1,3,none⟩=some (.slice ma mn mc))):=by
  obtain⟨n1,n2,n3,n4,n5⟩:=HN1.out;obtain⟨f1,f2,f3,f4⟩:=lts;obtain⟨r0,r1,r2,r3⟩:=HB1.out w2 l2;have hb:∀ j v,(#[.int .i64 (9),.int .i64 (A:Int),.int .i64 (B:Int),.int .i64 c,.int .i64 n]:Array Value)[j]?=some v→w2.cell? ⟨wq.heap.size,j,none⟩=some v:=fun j v hj=>by rw[hw2.out];exact box_at wq _ hj
  have hs2:wq.heap.size<w2.heap.size:=by rw[hw2.out];exact box_lt wq _
  refine⟨⟨⟨by rw[World.size_setCell];omega,by rw[World.size_setCell];omega,⟨by omega,by omega,by omega,by omega⟩,⟨by omega,by omega,by omega,by omega⟩,?_,?_,?_,?_,?_,?_⟩,?_⟩,?_,?_,?_⟩
  ·rw[set_far' (by omega)];exact r0
  ·rw[set_far' (by omega)];exact hb 0 _ rfl
  ·rw[set_far' (by omega)];exact hb 1 _ rfl
  ·rw[set_far' (by omega)];exact hb 2 _ rfl
  ·rw[set_far' (by omega)];exact hb 3 _ rfl
  ·rw[set_far' (by omega)];exact hb 4 _ rfl
  ·rw[HSt.out.1];exact al2.tick hC ht1
  ·rw[set_far' (by omega)];exact r1
  ·rw[set_far' (by omega)];exact r2
  ·rw[set_far' (by omega)];exact r3
 obtain⟨d19,z19⟩:=al2.mv.c19;have d14:=al2.mv.c14.1;have o0:w2.cell? ⟨wq.heap.size,0,none⟩=some (.int .i64 (9)):=by rw[hw2.out];exact box_at wq _ rfl
 have nK1:¬ C.K=wq.heap.size:=by have:=lts.1;omega
 have g5:(s0.steps:Int)+1=(t1:Int):=by omega
 have g6:(t1:Int)≤1000001:=by omega
 clear al2 HN1 HK1 HB1 l2 hw2 ht1 lts e0 e1 e2 e3 e4 m0 m1 m2 m3 d12 g0 g1 g2 g3 g4 hpc hpb hpl hig3 hBq hk1 lq hsq;go_upto_if 58 with fail
 revert HB
 generalize (w2.setCell ⟨C.K,19,none⟩ (.int .i64 (t1:Int)))=wx
 generalize wq.heap.size=B2
 intro HB;clear d19 z19 d14 o0 nK1 g5 g6;have bx:=HB.out.1.1;have al:=HB.out.1.2;have bx3:=HB.out.2;have hQ:=HQ.out;have hP:=HP.out;have hS:=HSt.out;have i12:=al.mv.c12.1;have z12:=al.mv.c12.2;clear HQ HP HB HSt;have p1:=hP.1;have p2:=hP.2;have p3:(s.pc:Int)≤6000:=by omega
 have p4:-10≤q.pc:=by omega
 have p5:q.pc≤6000:=by omega
 have nK:¬ B2=C.K:=bx.n2.1;have nR:¬ B2=C.RB:=bx.n2.2.2.2;have nW:¬ B2=C.WB:=bx.n2.2.1;obtain⟨rA,zA⟩:=al.mv.reg hA;have xA:(A:Int)<16:=by omega
 obtain⟨rB,zB⟩:=al.mv.reg hB;have xB:(B:Int)<16:=by omega
 have ba:=bx.a;have bb:=bx.b;have bc:=bx.c;have bn:=bx.n;have x3:=hC.d3
 have HL:Hid (∀ w',Later wx w'→Calls Tryz.prog 52 #[.pointer (some ⟨C.K,0,none⟩),.int .i64 (s.rg B)] w' (TkM C wx iv ov A Q)):=fun w' l=>by
  rw[hQ];exact al.len hC l hP.1 hP.2 hA h0 h1
 have HSl:Hid (∀ w',OnlyL C wx w'→w'.cell? ⟨B2,1,none⟩=some (.int .i64 (A:Int))∧w'.cell? ⟨B2,2,none⟩=some (.int .i64 (B:Int))):=fun w' l=>⟨(bx.only l).a,(bx.only l).b⟩
 have hS0:=HSl.out _ (OnlyL.of_later (Later.drew wx));clear al bx bx3 hQ hP hS h0 h1;go_wp2_with fail
 refine wp_region_held_drew (S:=fun w'=>w'.cell? ⟨B2,1,none⟩=some (.int .i64 (A:Int))∧w'.cell? ⟨B2,2,none⟩=some (.int .i64 (B:Int))) (by kernel_rfl) (by exact hS0) (fun hHeld=>?_);refine tk 0 (.slice (some ⟨C.RB,0,none⟩) 16 16) rfl ?_;(try go_simp);refine tk 1 (.pointer (some ⟨B2,1,none⟩)) rfl ?_;(try go_simp);refine tk 2 (.int .i64 ((A:Int))) rfl ?_;(try go_simp);refine tk 3 (.pointer (some ⟨C.K,0,none⟩)) rfl ?_;(try go_simp);refine tk 4 (.slice (some ⟨C.RB,0,none⟩) 16 16) rfl ?_;(try go_simp);refine tk 5 (.pointer (some ⟨B2,2,none⟩)) rfl ?_;(try go_simp);refine tk 6 (.int .i64 ((B:Int))) rfl ?_;(try go_simp);refine tk 7 (.pointer (some ⟨C.RB,B,none⟩)) rfl ?_;(try go_simp);refine rd1 8 rfl fun K hK=>?_;go_simp;refine hK.out _ _ ?_ (fun hHeld=>?_)
 ·first|assumption|(go_keep;done)|exact hS2|exact hS3.out _ _
 clear hK K;(try go_simp);refine rd1 9 rfl fun K hK=>?_;refine step_call rfl 52 en_len _ _ rfl [.pointer (some ⟨C.K,0,none⟩),.int .i64 (s.rg B)] rfl (fun v w'=>∃ z,v=.int .i64 z∧TkM C wx iv ov A Q (.returned (.int .i64 z)) w') ((HL.out _ (Later.drew _)).mono (fun e1 w1 hq=>by obtain⟨v,pz,rfl,r1⟩:=hq;exact⟨_,rfl,v,rfl,v,pz,rfl,r1⟩)) ?_;intro u2 w1 hc2;obtain⟨v,rfl,v9,pz,ev,o1,_,⟨j12,y12⟩,⟨⟨ub,jA⟩,yA⟩,HE⟩:=hc2
 cases ev
 have hS2:=HSl.out w1 o1;have hS3:Hid (∀ o v,(w1.setCell ⟨C.RB,o,none⟩ v).cell? ⟨B2,1,none⟩=some (.int .i64 (A:Int))∧(w1.setCell ⟨C.RB,o,none⟩ v).cell? ⟨B2,2,none⟩=some (.int .i64 (B:Int))):=fun o v=>HSl.out _ (o1.setR o v);refine hK.out _ _ ?_ (fun hHeld=>?_)
 ·first|assumption|(go_keep;done)|exact hS2|exact hS3.out _ _
 clear hK K;(try go_simp);refine tk 10 (.pointer (some ⟨C.RB,A,none⟩)) rfl ?_;(try go_simp);refine rd1 11 rfl fun K hK=>?_;go_simp;refine hK.out _ _ ?_ (fun hHeld=>?_)
 ·first|assumption|(go_keep;done)|exact hS2|exact hS3.out _ _
 clear hK K;(try go_simp);refine wpAnyH_done (by kernel_rfl) ?_ _;have hww:IntKind.i64.wrap (pz+1)=wrap64 (pz+1):=by unfold wrap64;exact IntKind.wrap_i64 _
 rw[hww]at HE;have HE2:Hid (∀ w'',Later ((w1.setCell ⟨C.RB,A,none⟩ (.int .i64 v)).setCell ⟨C.K,12,none⟩ (.int .i64 (wrap64 (pz+1)))) w''→Q unitE w''):=HE;clear hww HE HL HSl hS0 hS2 o1 i12 z12 rA zA rB zB;unfold unitE at HE2;go_wp2_with fail
 first|exact HE2.out _ (by first|exact Later.refl _|exact Later.drew _|exact (Later.drew _).trans (Later.drew _)|exact Later.drewN' _ _)|(go_end0;exact HE2.out _ (by first|exact Later.refl _|exact Later.drew _|exact (Later.drew _).trans (Later.drew _)|exact Later.drewN' _ _))
end Go.Proofs.YtjnpncefkigcbaaGreat
