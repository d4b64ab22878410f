import Derived.Test.YtjnpncefkigcbaaGreatIt
set_option maxHeartbeats 100000000
set_option maxRecDepth 100000
namespace Go.Proofs.YtjnpncefkigcbaaGreat
open Go.RowKit Go.Lib Go.Maps
theorem sp2_any {C:Mx}(hC:MxI C) {w:World}{s0 s:Vm}{q:Mq}{iv ov:Value}(h:Al C w s0 q iv ov) (hs:s=s0.tick) (hpc:q.pc=(s0.pc:Int)) (hpb:s0.pc+1≤6000) (hst:s0.steps≤1000000) {A N:Nat}(hA:A<16) (hN:N<frN C.x s.fn) (b c:Int) (hi:(cdAt C.x s0.fn).ins[s0.pc]?=some ⟨2,(A:Int),b,c,(N:Int)⟩) :
  Calls Tryz.prog 24 #[.pointer (some ⟨C.K,0,none⟩)] w (StM C q.ev (.go (s.set (A:Int) (s.W (s.fp+N))))):=by
 obtain⟨pv,ia,ic,ma,mn,mc,hcs,hci⟩:=code4 hC h.iv.fn;obtain⟨ig,io,rfl,hig,hcells⟩:=hci s0.pc _ hi;obtain⟨k1,k2,k3,k4⟩:=h.mv.lts
 have hpl:s0.pc<(cdAt C.x s0.fn).ins.length:=by
  rcases Nat.lt_or_ge s0.pc (cdAt C.x s0.fn).ins.length with k|k
  ·exact k
  ·rw[List.getElem?_eq_none k]at hi;cases hi
 have hfn:=h.iv.fn
 obtain⟨FR,hFR⟩:∃ FR,FR=frN C.x s0.fn:=⟨_,rfl⟩
 obtain⟨L,hL⟩:∃ L,L=(cdAt C.x s0.fn).ins.length:=⟨_,rfl⟩
 rw[←hL]at hcs hpl;rw[←hFR]at hcs;obtain⟨q1,q2,q3,q4⟩:=hcs w h.mv.lat;have c1:=h.mv.c1.1;have c11:=h.mv.c11.1;have j1:(s0.fn:Int)<(C.x.codes.length:Int):=by omega
 have hcg:C.cg<w.heap.size:=Nat.lt_of_lt_of_le (code_lt hC hfn) h.mv.lat.size;have hig1:ig<w.heap.size:=Nat.lt_of_lt_of_le hig h.mv.lat.size
 have HK:Hid (∀ w',Later w w'→Al C w' s0 q iv ov∧(w'.cell? ⟨ig,io+s0.pc*5,none⟩=some (.int .i64 (2))∧w'.cell? ⟨ig,io+s0.pc*5+1,none⟩=some (.int .i64 (A:Int))∧w'.cell? ⟨ig,io+s0.pc*5+2,none⟩=some (.int .i64 b)∧w'.cell? ⟨ig,io+s0.pc*5+3,none⟩=some (.int .i64 c)∧w'.cell? ⟨ig,io+s0.pc*5+4,none⟩=some (.int .i64 (N:Int)))):=fun w' l=>⟨h.kept l,hcells w' (h.mv.lat.trans l)⟩
 generalize hQ:StM C q.ev (.go (s.set (A:Int) (s.W (s.fp+N))))=Q at *
 have HQ:Hid (Q=StM C q.ev (.go (s.set (A:Int) (s.W (s.fp+N))))):=hQ.symm
 have HP:Hid (q.pc+1=(s.pc:Int)∧s.pc≤6000):=by
  rw[hs];exact⟨by rw[hpc];rfl,hpb⟩
 have HSt:Hid (s=s0.tick∧FR=frN C.x s0.fn):=⟨hs,hFR⟩
 clear hQ h hi hcells hci hcs hL hFR hs;go_enter Tryz.func24,Tryz.ntmps24;go_wp2_with fail
 go_region
 obtain⟨w1,hw1⟩:=hidx (w.alloc (Obj.cells #[.int .i64 (FR:Int),.int .i64 pv,.slice (some ⟨ig,io,none⟩) L ic,.slice ma mn mc] 61)).drew;rw[←hw1.out];have l1:Later w w1:=by rw[hw1.out];exact later_ad _ _
 have HB1:Hid (∀ w',Later w1 w'→w'.cell? ⟨w.heap.size,0,none⟩=some (.int .i64 (FR:Int))∧w'.cell? ⟨w.heap.size,1,none⟩=some (.int .i64 pv)∧w'.cell? ⟨w.heap.size,2,none⟩=some (.slice (some ⟨ig,io,none⟩) L ic)∧w'.cell? ⟨w.heap.size,3,none⟩=some (.slice ma mn mc)):=fun w' l=>by
  have hlt:w.heap.size<w1.heap.size:=by rw[hw1.out];exact box_lt w _
  refine⟨?_,?_,?_,?_⟩
  ·rw[Below.cell l (p:=⟨w.heap.size,0,none⟩) hlt,hw1.out];exact box_at w _ rfl
  ·rw[Below.cell l (p:=⟨w.heap.size,1,none⟩) hlt,hw1.out];exact box_at w _ rfl
  ·rw[Below.cell l (p:=⟨w.heap.size,2,none⟩) hlt,hw1.out];exact box_at w _ rfl
  ·rw[Below.cell l (p:=⟨w.heap.size,3,none⟩) hlt,hw1.out];exact box_at w _ rfl
 have HN1:Hid (C.K<w.heap.size∧C.WB<w.heap.size∧C.SB<w.heap.size∧C.RB<w.heap.size∧w.heap.size<w1.heap.size):=⟨k1,k2,k3,k4,by rw[hw1.out];exact box_lt w _⟩
 have hK1:=fun w' (l:Later w1 w')=>HK.out w' (l1.trans l);have HK1:Hid (∀ w',Later w1 w'→Al C w' s0 q iv ov∧(w'.cell? ⟨ig,io+s0.pc*5,none⟩=some (.int .i64 (2))∧w'.cell? ⟨ig,io+s0.pc*5+1,none⟩=some (.int .i64 (A:Int))∧w'.cell? ⟨ig,io+s0.pc*5+2,none⟩=some (.int .i64 b)∧w'.cell? ⟨ig,io+s0.pc*5+3,none⟩=some (.int .i64 c)∧w'.cell? ⟨ig,io+s0.pc*5+4,none⟩=some (.int .i64 (N:Int)))):=hK1;have hig2:ig<w1.heap.size:=Nat.lt_of_lt_of_le hig1 l1.size;have hB1:w.heap.size<w1.heap.size:=HN1.out.2.2.2.2;clear hK1 HK l1 hw1 q1 q2 q3 q4 c1 c11 j1 k1 k2 k3 k4 hig hfn hcg hig1
 generalize w.heap.size=B1 at *
 obtain⟨al1,e0,e1,e2,e3,e4⟩:=HK1.out w1 (Later.refl _);obtain⟨m0,m1,m2,m3⟩:=HB1.out w1 (Later.refl _);have d12:=al1.mv.c12.1;rw[hpc]at d12;have lts:=al1.mv.lts;have hk1:=lts.1;have g0:¬ (s0.pc:Int)<0:=by omega
 have g1:decide ((s0.pc:Int)<0)=false:=decide_eq_false g0;have g2:¬ (L:Int)≤(s0.pc:Int):=by omega
 have g3:decide ((L:Int)≤(s0.pc:Int))=false:=decide_eq_false g2;have g4:(s0.pc:Int)<(L:Int):=by omega
 clear al1;go_wp2_with fail
 go_quiet (fail)
 go_wp2_with fail
 obtain⟨wq,hwq⟩:=hidx (w1.drewN nq);rw[←hwq.out];have lq:Later w1 wq:=by rw[hwq.out];exact Later.drewN' _ _
 have hsq:w1.heap.size≤wq.heap.size:=lq.size;clear hwq e0 e1 e2 e3 e4 m0 m1 m2 m3 d12 hk1 lts;obtain⟨alq,e0,e1,e2,e3,e4⟩:=HK1.out wq lq;obtain⟨m0,m1,m2,m3⟩:=HB1.out wq lq;have d12:=alq.mv.c12.1;rw[hpc]at d12;have lts:=alq.mv.lts;have hk1:=lts.1;have hig3:ig<wq.heap.size:=by omega
 have hBq:B1<wq.heap.size:=by omega
 clear alq hig2 hB1;go_region
 obtain⟨w2,hw2⟩:=hidx (wq.alloc (Obj.cells #[.int .i64 (2),.int .i64 (A:Int),.int .i64 b,.int .i64 c,.int .i64 (N:Int)] 97)).drew;rw[←hw2.out]
 obtain⟨t1,ht1⟩:∃ t1,t1=s0.steps+1:=⟨_,rfl⟩
 have l2:Later w1 w2:=lq.trans (by rw[hw2.out];exact later_ad _ _);obtain⟨al2,_⟩:=HK1.out w2 l2
 have HB:Hid ((Bx2 C B1 wq.heap.size (FR:Int) (2) (A:Int) b c (N:Int) (w2.setCell ⟨C.K,19,none⟩ (.int .i64 (t1:Int)))∧Al C (w2.setCell ⟨C.K,19,none⟩ (.int .i64 (t1:Int))) s q iv ov)∧((w2.setCell ⟨C.K,19,none⟩ (.int .i64 (t1:Int))).cell? ⟨B1,1,none⟩=some (.int .i64 pv)∧(w2.setCell ⟨C.K,19,none⟩ (.int .i64 (t1:Int))).cell? ⟨B1,2,none⟩=some (.slice (some ⟨ig,io,none⟩) L ic)∧(w2.setCell ⟨C.K,19,none⟩ (.int .i64 (t1:Int))).cell? ⟨B1,3,none⟩=some (.slice ma mn mc))):=by
  obtain⟨n1,n2,n3,n4,n5⟩:=HN1.out;obtain⟨f1,f2,f3,f4⟩:=lts;obtain⟨r0,r1,r2,r3⟩:=HB1.out w2 l2;have hb:∀ j v,(#[.int .i64 (2),.int .i64 (A:Int),.int .i64 b,.int .i64 c,.int .i64 (N:Int)]:Array Value)[j]?=some v→w2.cell? ⟨wq.heap.size,j,none⟩=some v:=fun j v hj=>by rw[hw2.out];exact box_at wq _ hj
  have hs2:wq.heap.size<w2.heap.size:=by rw[hw2.out];exact box_lt wq _
  refine⟨⟨⟨by rw[World.size_setCell];omega,by rw[World.size_setCell];omega,⟨by omega,by omega,by omega,by omega⟩,⟨by omega,by omega,by omega,by omega⟩,?_,?_,?_,?_,?_,?_⟩,?_⟩,?_,?_,?_⟩
  ·rw[set_far' (by omega)];exact r0
  ·rw[set_far' (by omega)];exact hb 0 _ rfl
  ·rw[set_far' (by omega)];exact hb 1 _ rfl
  ·rw[set_far' (by omega)];exact hb 2 _ rfl
  ·rw[set_far' (by omega)];exact hb 3 _ rfl
  ·rw[set_far' (by omega)];exact hb 4 _ rfl
  ·rw[HSt.out.1];exact al2.tick hC ht1
  ·rw[set_far' (by omega)];exact r1
  ·rw[set_far' (by omega)];exact r2
  ·rw[set_far' (by omega)];exact r3
 obtain⟨d19,z19⟩:=al2.mv.c19;have d14:=al2.mv.c14.1;have o0:w2.cell? ⟨wq.heap.size,0,none⟩=some (.int .i64 (2)):=by rw[hw2.out];exact box_at wq _ rfl
 have nK1:¬ C.K=wq.heap.size:=by have:=lts.1;omega
 have g5:(s0.steps:Int)+1=(t1:Int):=by omega
 have g6:(t1:Int)≤1000001:=by omega
 clear al2 HN1 HK1 HB1 l2 hw2 ht1 lts e0 e1 e2 e3 e4 m0 m1 m2 m3 d12 g0 g1 g2 g3 g4 hpc hpb hpl hig3 hBq hk1 lq hsq;go_upto_if 58 with fail
 revert HB
 generalize (w2.setCell ⟨C.K,19,none⟩ (.int .i64 (t1:Int)))=wx
 generalize wq.heap.size=B2
 intro HB;clear d19 z19 d14 o0 nK1 g5 g6;have bx:=HB.out.1.1;have al:=HB.out.1.2;have bx3:=HB.out.2;have hQ:=HQ.out;have hP:=HP.out;have hS:=HSt.out;have i12:=al.mv.c12.1;have z12:=al.mv.c12.2;clear HQ HP HB HSt;have p1:=hP.1;have p2:=hP.2;have p3:(s.pc:Int)≤6000:=by omega
 have p4:-10≤q.pc:=by omega
 have p5:q.pc≤6000:=by omega
 have nK:¬ B2=C.K:=bx.n2.1;have nR:¬ B2=C.RB:=bx.n2.2.2.2;have nW:¬ B2=C.WB:=bx.n2.2.1;obtain⟨rA,zA⟩:=al.mv.reg hA;have xA:(A:Int)<16:=by omega
 have ba:=bx.a;have bb:=bx.b;have bc:=bx.c;have bn:=bx.n;have hb2:=al.iv.b2;have hb3:=al.iv.b3;have htop:s.top C.x=s.fp+frN C.x s.fn:=rfl;have hfc:=(hC.xi.at al.iv.fn).fr;have hCN:=hC.hN
 obtain⟨ad,had⟩:∃ ad,ad=s.fp+N:=⟨_,rfl⟩
 have hlt:ad<12000:=by omega
 have hqa:q.W ad=s.W ad:=al.ag _ (.inl hlt);have d3:=al.mv.c3.1;have d10:=al.mv.c10.1;obtain⟨dw,zw⟩:=al.mv.word (a:=ad) (by omega);rw[hqa]at dw;have y1:(s.fp:Int)+(N:Int)=(ad:Int):=by omega
 have y2:(ad:Int)≤12000:=by omega
 have y3:(ad:Int)<(C.N:Int):=by omega
 have x3:=hC.d3
 have HZ:Hid (∀ w'',Later ((wx.setCell ⟨C.RB,A,none⟩ (.int .i64 (s.W (s.fp+N)))).setCell ⟨C.K,12,none⟩ (.int .i64 (s.pc:Int))) w''→Q unitE w''):=fun w'' l=>by
  rw[hQ];exact (al.reg1 hC hA (s.W (s.fp+N))).go1 hC rfl rfl (Nat.le_succ _) l
 rw[←had]at HZ
 generalize s.W ad=V at *
 clear al bx bx3 hQ hP hS had hlt hqa hb2 hb3 htop hfc hCN;unfold unitE at HZ;go_wp2_with fail
 go_region
 go_wp2_with fail
 first|exact HZ.out _ (by first|exact Later.refl _|exact Later.drew _|exact (Later.drew _).trans (Later.drew _)|exact Later.drewN' _ _)|(go_end0;exact HZ.out _ (by first|exact Later.refl _|exact Later.drew _|exact (Later.drew _).trans (Later.drew _)|exact Later.drewN' _ _))
theorem sp3_any {C:Mx}(hC:MxI C) {w:World}{s0 s:Vm}{q:Mq}{iv ov:Value}(h:Al C w s0 q iv ov) (hs:s=s0.tick) (hpc:q.pc=(s0.pc:Int)) (hpb:s0.pc+1≤6000) (hst:s0.steps≤1000000) {A N:Nat}(hA:A<16) (hN3:3≤N) (hN:N<frN C.x s.fn) (b c:Int) (hi:(cdAt C.x s0.fn).ins[s0.pc]?=some ⟨3,(A:Int),b,c,(N:Int)⟩) :
  Calls Tryz.prog 24 #[.pointer (some ⟨C.K,0,none⟩)] w (StM C q.ev (.go { s with W:=fset s.W (s.fp+N) (s.rg A) })):=by
 obtain⟨pv,ia,ic,ma,mn,mc,hcs,hci⟩:=code4 hC h.iv.fn;obtain⟨ig,io,rfl,hig,hcells⟩:=hci s0.pc _ hi;obtain⟨k1,k2,k3,k4⟩:=h.mv.lts
 have hpl:s0.pc<(cdAt C.x s0.fn).ins.length:=by
  rcases Nat.lt_or_ge s0.pc (cdAt C.x s0.fn).ins.length with k|k
  ·exact k
  ·rw[List.getElem?_eq_none k]at hi;cases hi
 have hfn:=h.iv.fn
 obtain⟨FR,hFR⟩:∃ FR,FR=frN C.x s0.fn:=⟨_,rfl⟩
 obtain⟨L,hL⟩:∃ L,L=(cdAt C.x s0.fn).ins.length:=⟨_,rfl⟩
 rw[←hL]at hcs hpl;rw[←hFR]at hcs;obtain⟨q1,q2,q3,q4⟩:=hcs w h.mv.lat;have c1:=h.mv.c1.1;have c11:=h.mv.c11.1;have j1:(s0.fn:Int)<(C.x.codes.length:Int):=by omega
 have hcg:C.cg<w.heap.size:=Nat.lt_of_lt_of_le (code_lt hC hfn) h.mv.lat.size;have hig1:ig<w.heap.size:=Nat.lt_of_lt_of_le hig h.mv.lat.size
 have HK:Hid (∀ w',Later w w'→Al C w' s0 q iv ov∧(w'.cell? ⟨ig,io+s0.pc*5,none⟩=some (.int .i64 (3))∧w'.cell? ⟨ig,io+s0.pc*5+1,none⟩=some (.int .i64 (A:Int))∧w'.cell? ⟨ig,io+s0.pc*5+2,none⟩=some (.int .i64 b)∧w'.cell? ⟨ig,io+s0.pc*5+3,none⟩=some (.int .i64 c)∧w'.cell? ⟨ig,io+s0.pc*5+4,none⟩=some (.int .i64 (N:Int)))):=fun w' l=>⟨h.kept l,hcells w' (h.mv.lat.trans l)⟩
 generalize hQ:StM C q.ev (.go { s with W:=fset s.W (s.fp+N) (s.rg A) })=Q at *
 have HQ:Hid (Q=StM C q.ev (.go { s with W:=fset s.W (s.fp+N) (s.rg A) })):=hQ.symm
 have HP:Hid (q.pc+1=(s.pc:Int)∧s.pc≤6000):=by
  rw[hs];exact⟨by rw[hpc];rfl,hpb⟩
 have HSt:Hid (s=s0.tick∧FR=frN C.x s0.fn):=⟨hs,hFR⟩
 clear hQ h hi hcells hci hcs hL hFR hs;go_enter Tryz.func24,Tryz.ntmps24;go_wp2_with fail
 go_region
 obtain⟨w1,hw1⟩:=hidx (w.alloc (Obj.cells #[.int .i64 (FR:Int),.int .i64 pv,.slice (some ⟨ig,io,none⟩) L ic,.slice ma mn mc] 61)).drew;rw[←hw1.out];have l1:Later w w1:=by rw[hw1.out];exact later_ad _ _
 have HB1:Hid (∀ w',Later w1 w'→w'.cell? ⟨w.heap.size,0,none⟩=some (.int .i64 (FR:Int))∧w'.cell? ⟨w.heap.size,1,none⟩=some (.int .i64 pv)∧w'.cell? ⟨w.heap.size,2,none⟩=some (.slice (some ⟨ig,io,none⟩) L ic)∧w'.cell? ⟨w.heap.size,3,none⟩=some (.slice ma mn mc)):=fun w' l=>by
  have hlt:w.heap.size<w1.heap.size:=by rw[hw1.out];exact box_lt w _
  refine⟨?_,?_,?_,?_⟩
  ·rw[Below.cell l (p:=⟨w.heap.size,0,none⟩) hlt,hw1.out];exact box_at w _ rfl
  ·rw[Below.cell l (p:=⟨w.heap.size,1,none⟩) hlt,hw1.out];exact box_at w _ rfl
  ·rw[Below.cell l (p:=⟨w.heap.size,2,none⟩) hlt,hw1.out];exact box_at w _ rfl
  ·rw[Below.cell l (p:=⟨w.heap.size,3,none⟩) hlt,hw1.out];exact box_at w _ rfl
 have HN1:Hid (C.K<w.heap.size∧C.WB<w.heap.size∧C.SB<w.heap.size∧C.RB<w.heap.size∧w.heap.size<w1.heap.size):=⟨k1,k2,k3,k4,by rw[hw1.out];exact box_lt w _⟩
 have hK1:=fun w' (l:Later w1 w')=>HK.out w' (l1.trans l);have HK1:Hid (∀ w',Later w1 w'→Al C w' s0 q iv ov∧(w'.cell? ⟨ig,io+s0.pc*5,none⟩=some (.int .i64 (3))∧w'.cell? ⟨ig,io+s0.pc*5+1,none⟩=some (.int .i64 (A:Int))∧w'.cell? ⟨ig,io+s0.pc*5+2,none⟩=some (.int .i64 b)∧w'.cell? ⟨ig,io+s0.pc*5+3,none⟩=some (.int .i64 c)∧w'.cell? ⟨ig,io+s0.pc*5+4,none⟩=some (.int .i64 (N:Int)))):=hK1;have hig2:ig<w1.heap.size:=Nat.lt_of_lt_of_le hig1 l1.size;have hB1:w.heap.size<w1.heap.size:=HN1.out.2.2.2.2;clear hK1 HK l1 hw1 q1 q2 q3 q4 c1 c11 j1 k1 k2 k3 k4 hig hfn hcg hig1
 generalize w.heap.size=B1 at *
 obtain⟨al1,e0,e1,e2,e3,e4⟩:=HK1.out w1 (Later.refl _);obtain⟨m0,m1,m2,m3⟩:=HB1.out w1 (Later.refl _);have d12:=al1.mv.c12.1;rw[hpc]at d12;have lts:=al1.mv.lts;have hk1:=lts.1;have g0:¬ (s0.pc:Int)<0:=by omega
 have g1:decide ((s0.pc:Int)<0)=false:=decide_eq_false g0;have g2:¬ (L:Int)≤(s0.pc:Int):=by omega
 have g3:decide ((L:Int)≤(s0.pc:Int))=false:=decide_eq_false g2;have g4:(s0.pc:Int)<(L:Int):=by omega
 clear al1;go_wp2_with fail
 go_quiet (fail)
 go_wp2_with fail
 obtain⟨wq,hwq⟩:=hidx (w1.drewN nq);rw[←hwq.out];have lq:Later w1 wq:=by rw[hwq.out];exact Later.drewN' _ _
 have hsq:w1.heap.size≤wq.heap.size:=lq.size;clear hwq e0 e1 e2 e3 e4 m0 m1 m2 m3 d12 hk1 lts;obtain⟨alq,e0,e1,e2,e3,e4⟩:=HK1.out wq lq;obtain⟨m0,m1,m2,m3⟩:=HB1.out wq lq;have d12:=alq.mv.c12.1;rw[hpc]at d12;have lts:=alq.mv.lts;have hk1:=lts.1;have hig3:ig<wq.heap.size:=by omega
 have hBq:B1<wq.heap.size:=by omega
 clear alq hig2 hB1;go_region
 obtain⟨w2,hw2⟩:=hidx (wq.alloc (Obj.cells #[.int .i64 (3),.int .i64 (A:Int),.int .i64 b,.int .i64 c,.int .i64 (N:Int)] 97)).drew;rw[←hw2.out]
 obtain⟨t1,ht1⟩:∃ t1,t1=s0.steps+1:=⟨_,rfl⟩
 have l2:Later w1 w2:=lq.trans (by rw[hw2.out];exact later_ad _ _);obtain⟨al2,_⟩:=HK1.out w2 l2
 have HB:Hid ((Bx2 C B1 wq.heap.size (FR:Int) (3) (A:Int) b c (N:Int) (w2.setCell ⟨C.K,19,none⟩ (.int .i64 (t1:Int)))∧Al C (w2.setCell ⟨C.K,19,none⟩ (.int .i64 (t1:Int))) s q iv ov)∧((w2.setCell ⟨C.K,19,none⟩ (.int .i64 (t1:Int))).cell? ⟨B1,1,none⟩=some (.int .i64 pv)∧(w2.setCell ⟨C.K,19,none⟩ (.int .i64 (t1:Int))).cell? ⟨B1,2,none⟩=some (.slice (some ⟨ig,io,none⟩) L ic)∧(w2.setCell ⟨C.K,19,none⟩ (.int .i64 (t1:Int))).cell? ⟨B1,3,none⟩=some (.slice ma mn mc))):=by
  obtain⟨n1,n2,n3,n4,n5⟩:=HN1.out;obtain⟨f1,f2,f3,f4⟩:=lts;obtain⟨r0,r1,r2,r3⟩:=HB1.out w2 l2;have hb:∀ j v,(#[.int .i64 (3),.int .i64 (A:Int),.int .i64 b,.int .i64 c,.int .i64 (N:Int)]:Array Value)[j]?=some v→w2.cell? ⟨wq.heap.size,j,none⟩=some v:=fun j v hj=>by rw[hw2.out];exact box_at wq _ hj
  have hs2:wq.heap.size<w2.heap.size:=by rw[hw2.out];exact box_lt wq _
  refine⟨⟨⟨by rw[World.size_setCell];omega,by rw[World.size_setCell];omega,⟨by omega,by omega,by omega,by omega⟩,⟨by omega,by omega,by omega,by omega⟩,?_,?_,?_,?_,?_,?_⟩,?_⟩,?_,?_,?_⟩
  ·rw[set_far' (by omega)];exact r0
  ·rw[set_far' (by omega)];exact hb 0 _ rfl
  ·rw[set_far' (by omega)];exact hb 1 _ rfl
  ·rw[set_far' (by omega)];exact hb 2 _ rfl
  ·rw[set_far' (by omega)];exact hb 3 _ rfl
  ·rw[set_far' (by omega)];exact hb 4 _ rfl
  ·rw[HSt.out.1];exact al2.tick hC ht1
  ·rw[set_far' (by omega)];exact r1
  ·rw[set_far' (by omega)];exact r2
  ·rw[set_far' (by omega)];exact r3
 obtain⟨d19,z19⟩:=al2.mv.c19;have d14:=al2.mv.c14.1;have o0:w2.cell? ⟨wq.heap.size,0,none⟩=some (.int .i64 (3)):=by rw[hw2.out];exact box_at wq _ rfl
 have nK1:¬ C.K=wq.heap.size:=by have:=lts.1;omega
 have g5:(s0.steps:Int)+1=(t1:Int):=by omega
 have g6:(t1:Int)≤1000001:=by omega
 clear al2 HN1 HK1 HB1 l2 hw2 ht1 lts e0 e1 e2 e3 e4 m0 m1 m2 m3 d12 g0 g1 g2 g3 g4 hpc hpb hpl hig3 hBq hk1 lq hsq;go_upto_if 58 with fail
 revert HB
 generalize (w2.setCell ⟨C.K,19,none⟩ (.int .i64 (t1:Int)))=wx
 generalize wq.heap.size=B2
 intro HB;clear d19 z19 d14 o0 nK1 g5 g6;have bx:=HB.out.1.1;have al:=HB.out.1.2;have bx3:=HB.out.2;have hQ:=HQ.out;have hP:=HP.out;have hS:=HSt.out;have i12:=al.mv.c12.1;have z12:=al.mv.c12.2;clear HQ HP HB HSt;have p1:=hP.1;have p2:=hP.2;have p3:(s.pc:Int)≤6000:=by omega
 have p4:-10≤q.pc:=by omega
 have p5:q.pc≤6000:=by omega
 have nK:¬ B2=C.K:=bx.n2.1;have nR:¬ B2=C.RB:=bx.n2.2.2.2;have nW:¬ B2=C.WB:=bx.n2.2.1;obtain⟨rA,zA⟩:=al.mv.reg hA;have xA:(A:Int)<16:=by omega
 have ba:=bx.a;have bb:=bx.b;have bc:=bx.c;have bn:=bx.n;have hb2:=al.iv.b2;have hb3:=al.iv.b3;have htop:s.top C.x=s.fp+frN C.x s.fn:=rfl;have hfc:=(hC.xi.at al.iv.fn).fr;have hCN:=hC.hN
 obtain⟨ad,had⟩:∃ ad,ad=s.fp+N:=⟨_,rfl⟩
 have hlt:ad<12000:=by omega
 have hqa:q.W ad=s.W ad:=al.ag _ (.inl hlt);have d3:=al.mv.c3.1;have d10:=al.mv.c10.1;obtain⟨dw,zw⟩:=al.mv.word (a:=ad) (by omega);rw[hqa]at dw;have y1:(s.fp:Int)+(N:Int)=(ad:Int):=by omega
 have y2:(ad:Int)≤12000:=by omega
 have y3:(ad:Int)<(C.N:Int):=by omega
 have x1:=hC.d1
 have HZ:Hid (∀ w'',Later ((wx.setCell ⟨C.WB,ad,none⟩ (.int .i64 (s.rg A))).setCell ⟨C.K,12,none⟩ (.int .i64 (s.pc:Int))) w''→Q unitE w''):=fun w'' l=>by
  rw[hQ,← had];exact (al.word hC (a:=ad) (by omega) (s.rg A) (al.iv.slot hC.xi _ (by omega) (by omega))).go1 hC rfl rfl (Nat.le_succ _) l
 clear al bx bx3 hQ hP hS had hlt hqa hb2 hb3 htop hfc hCN;unfold unitE at HZ;go_wp2_with fail
 go_region
 go_wp2_with fail
 first|exact HZ.out _ (by first|exact Later.refl _|exact Later.drew _|exact (Later.drew _).trans (Later.drew _)|exact Later.drewN' _ _)|(go_end0;exact HZ.out _ (by first|exact Later.refl _|exact Later.drew _|exact (Later.drew _).trans (Later.drew _)|exact Later.drewN' _ _))
theorem spmore_any {C:Mx}(hC:MxI C) {w:World}{s0 s:Vm}{q:Mq}{iv ov:Value}(h:Al C w s0 q iv ov) (hs:s=s0.tick) (hpc:q.pc=(s0.pc:Int)) (hpb:s0.pc+1≤6000) (hst:s0.steps≤1000000) {k a b c n:Int}(h10:10≤k) (R:St) (hM:∀ (fr:Int) (v1 v2 v3:Value) (w':World),fr=((frN C.x s.fn:Nat):Int)→Al C w' s q iv ov→Calls Tryz.prog 53 #[.pointer (some ⟨C.K,0,none⟩),.agg #[.int .i64 fr,v1,v2,v3],.agg #[.int .i64 k,.int .i64 a,.int .i64 b,.int .i64 c,.int .i64 n]] w' (StM C q.ev R))  (hi:(cdAt C.x s0.fn).ins[s0.pc]?=some ⟨k,a,b,c,n⟩) :
  Calls Tryz.prog 24 #[.pointer (some ⟨C.K,0,none⟩)] w (StM C q.ev (R)):=by
 obtain⟨pv,ia,ic,ma,mn,mc,hcs,hci⟩:=code4 hC h.iv.fn;obtain⟨ig,io,rfl,hig,hcells⟩:=hci s0.pc _ hi;obtain⟨k1,k2,k3,k4⟩:=h.mv.lts
 have hpl:s0.pc<(cdAt C.x s0.fn).ins.length:=by
  rcases Nat.lt_or_ge s0.pc (cdAt C.x s0.fn).ins.length with k|k
  ·exact k
  ·rw[List.getElem?_eq_none k]at hi;cases hi
 have hfn:=h.iv.fn
 obtain⟨FR,hFR⟩:∃ FR,FR=frN C.x s0.fn:=⟨_,rfl⟩
 obtain⟨L,hL⟩:∃ L,L=(cdAt C.x s0.fn).ins.length:=⟨_,rfl⟩
 rw[←hL]at hcs hpl;rw[←hFR]at hcs;obtain⟨q1,q2,q3,q4⟩:=hcs w h.mv.lat;have c1:=h.mv.c1.1;have c11:=h.mv.c11.1;have j1:(s0.fn:Int)<(C.x.codes.length:Int):=by omega
 have hcg:C.cg<w.heap.size:=Nat.lt_of_lt_of_le (code_lt hC hfn) h.mv.lat.size;have hig1:ig<w.heap.size:=Nat.lt_of_lt_of_le hig h.mv.lat.size
 have HK:Hid (∀ w',Later w w'→Al C w' s0 q iv ov∧(w'.cell? ⟨ig,io+s0.pc*5,none⟩=some (.int .i64 (k))∧w'.cell? ⟨ig,io+s0.pc*5+1,none⟩=some (.int .i64 a)∧w'.cell? ⟨ig,io+s0.pc*5+2,none⟩=some (.int .i64 b)∧w'.cell? ⟨ig,io+s0.pc*5+3,none⟩=some (.int .i64 c)∧w'.cell? ⟨ig,io+s0.pc*5+4,none⟩=some (.int .i64 n))):=fun w' l=>⟨h.kept l,hcells w' (h.mv.lat.trans l)⟩
 generalize hQ:StM C q.ev (R)=Q at *
 have HQ:Hid (Q=StM C q.ev (R)):=hQ.symm
 have HP:Hid (q.pc+1=(s.pc:Int)∧s.pc≤6000):=by
  rw[hs];exact⟨by rw[hpc];rfl,hpb⟩
 have HSt:Hid (s=s0.tick∧FR=frN C.x s0.fn):=⟨hs,hFR⟩
 clear hQ h hi hcells hci hcs hL hFR hs;go_enter Tryz.func24,Tryz.ntmps24;go_wp2_with fail
 go_region
 obtain⟨w1,hw1⟩:=hidx (w.alloc (Obj.cells #[.int .i64 (FR:Int),.int .i64 pv,.slice (some ⟨ig,io,none⟩) L ic,.slice ma mn mc] 61)).drew;rw[←hw1.out];have l1:Later w w1:=by rw[hw1.out];exact later_ad _ _
 have HB1:Hid (∀ w',Later w1 w'→w'.cell? ⟨w.heap.size,0,none⟩=some (.int .i64 (FR:Int))∧w'.cell? ⟨w.heap.size,1,none⟩=some (.int .i64 pv)∧w'.cell? ⟨w.heap.size,2,none⟩=some (.slice (some ⟨ig,io,none⟩) L ic)∧w'.cell? ⟨w.heap.size,3,none⟩=some (.slice ma mn mc)):=fun w' l=>by
  have hlt:w.heap.size<w1.heap.size:=by rw[hw1.out];exact box_lt w _
  refine⟨?_,?_,?_,?_⟩
  ·rw[Below.cell l (p:=⟨w.heap.size,0,none⟩) hlt,hw1.out];exact box_at w _ rfl
  ·rw[Below.cell l (p:=⟨w.heap.size,1,none⟩) hlt,hw1.out];exact box_at w _ rfl
  ·rw[Below.cell l (p:=⟨w.heap.size,2,none⟩) hlt,hw1.out];exact box_at w _ rfl
  ·rw[Below.cell l (p:=⟨w.heap.size,3,none⟩) hlt,hw1.out];exact box_at w _ rfl
 have HN1:Hid (C.K<w.heap.size∧C.WB<w.heap.size∧C.SB<w.heap.size∧C.RB<w.heap.size∧w.heap.size<w1.heap.size):=⟨k1,k2,k3,k4,by rw[hw1.out];exact box_lt w _⟩
 have hK1:=fun w' (l:Later w1 w')=>HK.out w' (l1.trans l);have HK1:Hid (∀ w',Later w1 w'→Al C w' s0 q iv ov∧(w'.cell? ⟨ig,io+s0.pc*5,none⟩=some (.int .i64 (k))∧w'.cell? ⟨ig,io+s0.pc*5+1,none⟩=some (.int .i64 a)∧w'.cell? ⟨ig,io+s0.pc*5+2,none⟩=some (.int .i64 b)∧w'.cell? ⟨ig,io+s0.pc*5+3,none⟩=some (.int .i64 c)∧w'.cell? ⟨ig,io+s0.pc*5+4,none⟩=some (.int .i64 n))):=hK1;have hig2:ig<w1.heap.size:=Nat.lt_of_lt_of_le hig1 l1.size;have hB1:w.heap.size<w1.heap.size:=HN1.out.2.2.2.2;clear hK1 HK l1 hw1 q1 q2 q3 q4 c1 c11 j1 k1 k2 k3 k4 hig hfn hcg hig1
 generalize w.heap.size=B1 at *
 obtain⟨al1,e0,e1,e2,e3,e4⟩:=HK1.out w1 (Later.refl _);obtain⟨m0,m1,m2,m3⟩:=HB1.out w1 (Later.refl _);have d12:=al1.mv.c12.1;rw[hpc]at d12;have lts:=al1.mv.lts;have hk1:=lts.1;have g0:¬ (s0.pc:Int)<0:=by omega
 have g1:decide ((s0.pc:Int)<0)=false:=decide_eq_false g0;have g2:¬ (L:Int)≤(s0.pc:Int):=by omega
 have g3:decide ((L:Int)≤(s0.pc:Int))=false:=decide_eq_false g2;have g4:(s0.pc:Int)<(L:Int):=by omega
 clear al1;go_wp2_with fail
 go_quiet (fail)
 go_wp2_with fail
 obtain⟨wq,hwq⟩:=hidx (w1.drewN nq);rw[←hwq.out];have lq:Later w1 wq:=by rw[hwq.out];exact Later.drewN' _ _
 have hsq:w1.heap.size≤wq.heap.size:=lq.size;clear hwq e0 e1 e2 e3 e4 m0 m1 m2 m3 d12 hk1 lts;obtain⟨alq,e0,e1,e2,e3,e4⟩:=HK1.out wq lq;obtain⟨m0,m1,m2,m3⟩:=HB1.out wq lq;have d12:=alq.mv.c12.1;rw[hpc]at d12;have lts:=alq.mv.lts;have hk1:=lts.1;have hig3:ig<wq.heap.size:=by omega
 have hBq:B1<wq.heap.size:=by omega
 clear alq hig2 hB1;go_region
 obtain⟨w2,hw2⟩:=hidx (wq.alloc (Obj.cells #[.int .i64 (k),.int .i64 a,.int .i64 b,.int .i64 c,.int .i64 n] 97)).drew;rw[←hw2.out]
 obtain⟨t1,ht1⟩:∃ t1,t1=s0.steps+1:=⟨_,rfl⟩
 have l2:Later w1 w2:=lq.trans (by rw[hw2.out];exact later_ad _ _);obtain⟨al2,_⟩:=HK1.out w2 l2
 have HB:Hid ((Bx2 C B1 wq.heap.size (FR:Int) (k) a b c n (w2.setCell ⟨C.K,19,none⟩ (.int .i64 (t1:Int)))∧Al C (w2.setCell ⟨C.K,19,none⟩ (.int .i64 (t1:Int))) s q iv ov)∧((w2.setCell ⟨C.K,19,none⟩ (.int .i64 (t1:Int))).cell? ⟨B1,1,none⟩=some (.int .i64 pv)∧(w2.setCell ⟨C.K,19,none⟩ (.int .i64 (t1:Int))).cell? ⟨B1,2,none⟩=some (.slice (some ⟨ig,io,none⟩) L ic)∧(w2.setCell ⟨C.K,19,none⟩ (.int .i64 (t1:Int))).cell? ⟨B1,3,none⟩=some (.slice ma mn mc))):=by
  obtain⟨n1,n2,n3,n4,n5⟩:=HN1.out;obtain⟨f1,f2,f3,f4⟩:=lts;obtain⟨r0,r1,r2,r3⟩:=HB1.out w2 l2;have hb:∀ j v,(#[.int .i64 (k),.int .i64 a,.int .i64 b,.int .i64 c,.int .i64 n]:Array Value)[j]?=some v→w2.cell? ⟨wq.heap.size,j,none⟩=some v:=fun j v hj=>by rw[hw2.out];exact box_at wq _ hj
  have hs2:wq.heap.size<w2.heap.size:=by rw[hw2.out];exact box_lt wq _
  refine⟨⟨⟨by rw[World.size_setCell];omega,by rw[World.size_setCell];omega,⟨by omega,by omega,by omega,by omega⟩,⟨by omega,by omega,by omega,by omega⟩,?_,?_,?_,?_,?_,?_⟩,?_⟩,?_,?_,?_⟩
  ·rw[set_far' (by omega)];exact r0
  ·rw[set_far' (by omega)];exact hb 0 _ rfl
  ·rw[set_far' (by omega)];exact hb 1 _ rfl
  ·rw[set_far' (by omega)];exact hb 2 _ rfl
  ·rw[set_far' (by omega)];exact hb 3 _ rfl
  ·rw[set_far' (by omega)];exact hb 4 _ rfl
  ·rw[HSt.out.1];exact al2.tick hC ht1
  ·rw[set_far' (by omega)];exact r1
  ·rw[set_far' (by omega)];exact r2
  ·rw[set_far' (by omega)];exact r3
 obtain⟨d19,z19⟩:=al2.mv.c19;have d14:=al2.mv.c14.1;have o0:w2.cell? ⟨wq.heap.size,0,none⟩=some (.int .i64 (k)):=by rw[hw2.out];exact box_at wq _ rfl
 have nK1:¬ C.K=wq.heap.size:=by have:=lts.1;omega
 have g5:(s0.steps:Int)+1=(t1:Int):=by omega
 have g6:(t1:Int)≤1000001:=by omega
 clear al2 HN1 HK1 HB1 l2 hw2 ht1 lts e0 e1 e2 e3 e4 m0 m1 m2 m3 d12 g0 g1 g2 g3 g4 hpc hpb hpl hig3 hBq hk1 lq hsq;go_upto_if 58 with fail
 revert HB
 generalize (w2.setCell ⟨C.K,19,none⟩ (.int .i64 (t1:Int)))=wx
 generalize wq.heap.size=B2
 intro HB;clear d19 z19 d14 o0 nK1 g5 g6;have bx:=HB.out.1.1;have al:=HB.out.1.2;have bx3:=HB.out.2;have hQ:=HQ.out;have hP:=HP.out;have hS:=HSt.out;have i12:=al.mv.c12.1;have z12:=al.mv.c12.2;clear HQ HP HB HSt;have p1:=hP.1;have p2:=hP.2;have p3:(s.pc:Int)≤6000:=by omega
 have p4:-10≤q.pc:=by omega
 have p5:q.pc≤6000:=by omega
 have nK:¬ B2=C.K:=bx.n2.1;have nR:¬ B2=C.RB:=bx.n2.2.2.2;have nW:¬ B2=C.WB:=bx.n2.2.1;have ba:=bx.a;have bb:=bx.b;have bc:=bx.c;have bn:=bx.n;have e0:(k==0)=false:=by rw[beq_eq_false_iff_ne];omega
 have e1:(k==1)=false:=by rw[beq_eq_false_iff_ne];omega
 have e2:(k==2)=false:=by rw[beq_eq_false_iff_ne];omega
 have e3:(k==3)=false:=by rw[beq_eq_false_iff_ne];omega
 have e4:(k==4)=false:=by rw[beq_eq_false_iff_ne];omega
 have e5:(k==5)=false:=by rw[beq_eq_false_iff_ne];omega
 have e6:(k==6)=false:=by rw[beq_eq_false_iff_ne];omega
 have e7:(k==7)=false:=by rw[beq_eq_false_iff_ne];omega
 have e8:(k==8)=false:=by rw[beq_eq_false_iff_ne];omega
 have e9:(k==9)=false:=by rw[beq_eq_false_iff_ne];omega
 have bf:=bx.f;have bo:=bx.o;obtain⟨bf1,bf2,bf3⟩:=bx3
 have hfr:(FR:Int)=((frN C.x s.fn:Nat):Int):=by
  rw[hS.1,hS.2];rfl
 have hcl:=hM (FR:Int) (.int .i64 pv) (.slice (some ⟨ig,io,none⟩) L ic) (.slice ma mn mc) wx hfr al;have HCl:Hid (Calls Tryz.prog 53 #[.pointer (some ⟨C.K,0,none⟩),.agg #[.int .i64 (FR:Int),.int .i64 pv,.slice (some ⟨ig,io,none⟩) L ic,.slice ma mn mc],.agg #[.int .i64 k,.int .i64 a,.int .i64 b,.int .i64 c,.int .i64 n]] wx Q):=hcl;have HU:Hid (∀ n w',Q n w'→n=unitE):=fun n w' hq=>by rw[hQ]at hq;exact hq.1
 clear al bx hQ hP hS hM h10 hcl hfr;go_wp2_with fail
 refine HCl.out.mono ?_;intro n1 w1 hq1;have ee:=HU.out n1 w1 hq1;rw[ee]at hq1 ⊢;clear ee HU HCl;unfold unitE at hq1 ⊢;go_wp2_with fail
 first|exact hq1|(go_end0;exact hq1)
theorem spnone_any {C:Mx}(hC:MxI C) {w:World}{s0:Vm}{q:Mq}{iv ov:Value}(h:Al C w s0 q iv ov) (hpc:q.pc=(s0.pc:Int)) (hi:(cdAt C.x s0.fn).ins[s0.pc]?=none) :
  Calls Tryz.prog 24 #[.pointer (some ⟨C.K,0,none⟩)] w (StM C q.ev (.fin 7 0 s0)):=by
 obtain⟨pv,ia,ic,ma,mn,mc,hcs,_⟩:=code4 hC h.iv.fn;have hpl:(cdAt C.x s0.fn).ins.length≤s0.pc:=List.getElem?_eq_none_iff.1 hi;have hfn:=h.iv.fn;obtain⟨k1,k2,k3,k4⟩:=h.mv.lts
 obtain⟨FR,hFR⟩:∃ FR,FR=frN C.x s0.fn:=⟨_,rfl⟩
 obtain⟨L,hL⟩:∃ L,L=(cdAt C.x s0.fn).ins.length:=⟨_,rfl⟩
 rw[←hL]at hcs hpl;rw[←hFR]at hcs;obtain⟨q1,q2,q3,q4⟩:=hcs w h.mv.lat;have c1:=h.mv.c1.1;have c11:=h.mv.c11.1;have hcg:C.cg<w.heap.size:=Nat.lt_of_lt_of_le (code_lt hC hfn) h.mv.lat.size;have j1:(s0.fn:Int)<(C.x.codes.length:Int):=by omega
 have HSp:Hid (∀ w',Later w w'→Calls Tryz.prog 23 #[.pointer (some ⟨C.K,0,none⟩),.int .i64 7,.int .i64 0] w' (MQ C w' unitE s0 (q.stop 7 0) iv ov)):=fun w' l=>lstop_any hC (h.mv.kept l) 7 0;have HK:Hid (∀ w',Later w w'→w'.cell? ⟨C.K,12,none⟩=some (.int .i64 (s0.pc:Int))):=fun w' l=>by rw[(h.mv.kept l).c12.1,hpc]
 generalize hQ:StM C q.ev (.fin 7 0 s0)=Q at *
 have HZ:Hid (∀ w' w'',Mv C w' s0 (q.stop 7 0) iv ov→Later w' w''→Q unitE w''):=fun w' w'' m l=>by
  rw[←hQ];exact st_finM rfl (FinM.kept (h.stop m) l)
 clear hQ h hi hcs hL hFR;go_enter Tryz.func24,Tryz.ntmps24;go_wp2_with fail
 go_region
 obtain⟨w1,hw1⟩:=hidx (w.alloc (Obj.cells #[.int .i64 (FR:Int),.int .i64 pv,.slice ia L ic,.slice ma mn mc] 61)).drew;rw[←hw1.out];have l1:Later w w1:=by rw[hw1.out];exact later_ad _ _
 have m2:w1.cell? ⟨w.heap.size,2,none⟩=some (.slice ia L ic):=by rw[hw1.out];exact box_at w _ rfl
 have d12:=HK.out w1 l1;have g0:¬ (s0.pc:Int)<0:=by omega
 have g1:decide ((s0.pc:Int)<0)=false:=decide_eq_false g0;have g2:(L:Int)≤(s0.pc:Int):=by omega
 have g3:decide ((L:Int)≤(s0.pc:Int))=true:=decide_eq_true g2;clear HK hw1 q1 q2 q3 q4 c1 c11 j1 k1 k2 k3 k4 hfn hpc hpl hcg
 generalize w.heap.size=B1 at *
 go_wp2_with fail
 go_quiet (fail)
 go_wp2_with fail
 refine (HSp.out _ (l1.trans (Later.drewN' _ _))).mono ?_;rintro n3 w3 ⟨rfl,m3,o3⟩;have HZ2:Hid (∀ w'',Later w3 w''→Q unitE w''):=fun w''=>HZ.out w3 w'' m3;clear HZ HSp m3 o3;unfold unitE at HZ2 ⊢;go_wp2_with fail
 first|exact HZ2.out _ (Later.refl _)|(go_end0;exact HZ2.out _ (Later.refl _))
end Go.Proofs.YtjnpncefkigcbaaGreat
