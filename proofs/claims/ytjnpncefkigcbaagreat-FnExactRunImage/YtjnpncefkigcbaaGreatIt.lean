import Derived.Test.YtjnpncefkigcbaaGreatIo
import Derived.Test.YtjnpncefkigcbaaGreatHw
set_option maxHeartbeats 100000000
set_option maxRecDepth 100000
namespace Go.Proofs.YtjnpncefkigcbaaGreat
open Go.RowKit Go.Lib Go.Maps
theorem code4 {C:Mx}(hC:MxI C) {c:Nat}(hc:c<C.x.codes.length):∃ (pv:Int) (ia:Option Addr) (ic:Nat) (ma:Option Addr) (mn mc:Nat),(∀ w',Later C.w0 w'→w'.cell? ⟨C.cg,C.co+c*4,none⟩=some (.int .i64 ((frN C.x c:Nat):Int))∧w'.cell? ⟨C.cg,C.co+c*4+1,none⟩=some (.int .i64 pv)∧w'.cell? ⟨C.cg,C.co+c*4+2,none⟩=some (.slice ia (cdAt C.x c).ins.length ic)∧w'.cell? ⟨C.cg,C.co+c*4+3,none⟩=some (.slice ma mn mc))∧∀ (q:Nat) (i:Is),(cdAt C.x c).ins[q]?=some i→∃ g off,ia=some ⟨g,off,none⟩∧g<C.w0.heap.size∧∀ w',Later C.w0 w' →
  w'.cell? ⟨g,off+q*5,none⟩=some (.int .i64 i.op)∧w'.cell? ⟨g,off+q*5+1,none⟩=some (.int .i64 i.a)∧w'.cell? ⟨g,off+q*5+2,none⟩=some (.int .i64 i.b)∧w'.cell? ⟨g,off+q*5+3,none⟩=some (.int .i64 i.c)∧w'.cell? ⟨g,off+q*5+4,none⟩=some (.int .i64 i.n):=by
 obtain⟨ia,ic,k2,hci⟩:=code_cells hC.cx hc;obtain⟨g,off,v0,v1,e1,hg,h0,h1,h2,h3,_,r1⟩:=Cd.elem hC.cd c hc
 cases e1
 obtain⟨ma,mc,rfl,_⟩:=Ma.slice r1;rw[←cdAt_eq hc]at h0;rw[←(hC.xi.at hc).fr.1]at h0;exact⟨_,ia,ic,ma,_,mc,fun w' l=>⟨by rw[Below.cell l (p:=⟨C.cg,C.co+c*4,none⟩) hg];exact h0,by rw[Below.cell l (p:=⟨C.cg,C.co+c*4+1,none⟩) hg];exact h1,k2 w' l,by rw[Below.cell l (p:=⟨C.cg,C.co+c*4+3,none⟩) hg];exact h3⟩,hci⟩
theorem Al.tick {C:Mx}(hC:MxI C) {w:World}{s:Vm}{q:Mq}{iv ov:Value}(h:Al C w s q iv ov) {t1:Nat}(ht:t1=s.steps+1):Al C (w.setCell ⟨C.K,19,none⟩ (.int .i64 (t1:Int))) s.tick q iv ov :=
 ⟨h.mv.setK hC (s':=s.tick) (q':=q) (o:=19) (v:=.int .i64 (t1:Int)) (by decide) (by rw[ht];exact map_ext rfl) rfl rfl rfl rfl rfl,h.ag,h.iv.tick,h.en,h.cd,h.orc⟩
theorem Bx2.far {C:Mx}{B1 B2:Nat}{fr op a b c n:Int}{wx w':World}(h:Bx2 C B1 B2 fr op a b c n wx) (l:Later wx w') (o:Nat) (v:Value):Bx2 C B1 B2 fr op a b c n (w'.setCell ⟨C.RB,o,none⟩ v):=h.only ((OnlyL.of_later l).setR _ _)
theorem sp0_any {C:Mx}(hC:MxI C) {w:World}{s0 s:Vm}{q:Mq}{iv ov:Value}(h:Al C w s0 q iv ov) (hs:s=s0.tick) (hpc:q.pc=(s0.pc:Int)) (hpb:s0.pc+1≤6000) (hst:s0.steps≤1000000) {A:Nat}(hA:A<16) (b c n:Int) (hi:(cdAt C.x s0.fn).ins[s0.pc]?=some ⟨0,(A:Int),b,c,n⟩) :
  Calls Tryz.prog 24 #[.pointer (some ⟨C.K,0,none⟩)] w (StM C q.ev (.go (s.set (A:Int) (n)))):=by
 obtain⟨pv,ia,ic,ma,mn,mc,hcs,hci⟩:=code4 hC h.iv.fn;obtain⟨ig,io,rfl,hig,hcells⟩:=hci s0.pc _ hi;obtain⟨k1,k2,k3,k4⟩:=h.mv.lts
 have hpl:s0.pc<(cdAt C.x s0.fn).ins.length:=by
  rcases Nat.lt_or_ge s0.pc (cdAt C.x s0.fn).ins.length with k|k
  ·exact k
  ·rw[List.getElem?_eq_none k]at hi;cases hi
 have hfn:=h.iv.fn
 obtain⟨FR,hFR⟩:∃ FR,FR=frN C.x s0.fn:=⟨_,rfl⟩
 obtain⟨L,hL⟩:∃ L,L=(cdAt C.x s0.fn).ins.length:=⟨_,rfl⟩
 rw[←hL]at hcs hpl;rw[←hFR]at hcs;obtain⟨q1,q2,q3,q4⟩:=hcs w h.mv.lat;have c1:=h.mv.c1.1;have c11:=h.mv.c11.1;have j1:(s0.fn:Int)<(C.x.codes.length:Int):=by omega
 have hcg:C.cg<w.heap.size:=Nat.lt_of_lt_of_le (code_lt hC hfn) h.mv.lat.size;have hig1:ig<w.heap.size:=Nat.lt_of_lt_of_le hig h.mv.lat.size
 have HK:Hid (∀ w',Later w w'→Al C w' s0 q iv ov∧(w'.cell? ⟨ig,io+s0.pc*5,none⟩=some (.int .i64 (0))∧w'.cell? ⟨ig,io+s0.pc*5+1,none⟩=some (.int .i64 (A:Int))∧w'.cell? ⟨ig,io+s0.pc*5+2,none⟩=some (.int .i64 b)∧w'.cell? ⟨ig,io+s0.pc*5+3,none⟩=some (.int .i64 c)∧w'.cell? ⟨ig,io+s0.pc*5+4,none⟩=some (.int .i64 n))):=fun w' l=>⟨h.kept l,hcells w' (h.mv.lat.trans l)⟩
 generalize hQ:StM C q.ev (.go (s.set (A:Int) (n)))=Q at *
 have HQ:Hid (Q=StM C q.ev (.go (s.set (A:Int) (n)))):=hQ.symm
 have HP:Hid (q.pc+1=(s.pc:Int)∧s.pc≤6000):=by
  rw[hs];exact⟨by rw[hpc];rfl,hpb⟩
 have HSt:Hid (s=s0.tick∧FR=frN C.x s0.fn):=⟨hs,hFR⟩
 clear hQ h hi hcells hci hcs hL hFR hs;go_enter Tryz.func24,Tryz.ntmps24;go_wp2_with fail
 go_region
 obtain⟨w1,hw1⟩:=hidx (w.alloc (Obj.cells #[.int .i64 (FR:Int),.int .i64 pv,.slice (some ⟨ig,io,none⟩) L ic,.slice ma mn mc] 61)).drew;rw[←hw1.out];have l1:Later w w1:=by rw[hw1.out];exact later_ad _ _
 have HB1:Hid (∀ w',Later w1 w'→w'.cell? ⟨w.heap.size,0,none⟩=some (.int .i64 (FR:Int))∧w'.cell? ⟨w.heap.size,1,none⟩=some (.int .i64 pv)∧w'.cell? ⟨w.heap.size,2,none⟩=some (.slice (some ⟨ig,io,none⟩) L ic)∧w'.cell? ⟨w.heap.size,3,none⟩=some (.slice ma mn mc)):=fun w' l=>by
  have hlt:w.heap.size<w1.heap.size:=by rw[hw1.out];exact box_lt w _
  refine⟨?_,?_,?_,?_⟩
  ·rw[Below.cell l (p:=⟨w.heap.size,0,none⟩) hlt,hw1.out];exact box_at w _ rfl
  ·rw[Below.cell l (p:=⟨w.heap.size,1,none⟩) hlt,hw1.out];exact box_at w _ rfl
  ·rw[Below.cell l (p:=⟨w.heap.size,2,none⟩) hlt,hw1.out];exact box_at w _ rfl
  ·rw[Below.cell l (p:=⟨w.heap.size,3,none⟩) hlt,hw1.out];exact box_at w _ rfl
 have HN1:Hid (C.K<w.heap.size∧C.WB<w.heap.size∧C.SB<w.heap.size∧C.RB<w.heap.size∧w.heap.size<w1.heap.size):=⟨k1,k2,k3,k4,by rw[hw1.out];exact box_lt w _⟩
 have hK1:=fun w' (l:Later w1 w')=>HK.out w' (l1.trans l);have HK1:Hid (∀ w',Later w1 w'→Al C w' s0 q iv ov∧(w'.cell? ⟨ig,io+s0.pc*5,none⟩=some (.int .i64 (0))∧w'.cell? ⟨ig,io+s0.pc*5+1,none⟩=some (.int .i64 (A:Int))∧w'.cell? ⟨ig,io+s0.pc*5+2,none⟩=some (.int .i64 b)∧w'.cell? ⟨ig,io+s0.pc*5+3,none⟩=some (.int .i64 c)∧w'.cell? ⟨ig,io+s0.pc*5+4,none⟩=some (.int .i64 n))):=hK1;have hig2:ig<w1.heap.size:=Nat.lt_of_lt_of_le hig1 l1.size;have hB1:w.heap.size<w1.heap.size:=HN1.out.2.2.2.2;clear hK1 HK l1 hw1 q1 q2 q3 q4 c1 c11 j1 k1 k2 k3 k4 hig hfn hcg hig1
 generalize w.heap.size=B1 at *
 obtain⟨al1,e0,e1,e2,e3,e4⟩:=HK1.out w1 (Later.refl _);obtain⟨m0,m1,m2,m3⟩:=HB1.out w1 (Later.refl _);have d12:=al1.mv.c12.1;rw[hpc]at d12;have lts:=al1.mv.lts;have hk1:=lts.1;have g0:¬ (s0.pc:Int)<0:=by omega
 have g1:decide ((s0.pc:Int)<0)=false:=decide_eq_false g0;have g2:¬ (L:Int)≤(s0.pc:Int):=by omega
 have g3:decide ((L:Int)≤(s0.pc:Int))=false:=decide_eq_false g2;have g4:(s0.pc:Int)<(L:Int):=by omega
 clear al1;go_wp2_with fail
 go_quiet (fail)
 go_wp2_with fail
 obtain⟨wq,hwq⟩:=hidx (w1.drewN nq);rw[←hwq.out];have lq:Later w1 wq:=by rw[hwq.out];exact Later.drewN' _ _
 have hsq:w1.heap.size≤wq.heap.size:=lq.size;clear hwq e0 e1 e2 e3 e4 m0 m1 m2 m3 d12 hk1 lts;obtain⟨alq,e0,e1,e2,e3,e4⟩:=HK1.out wq lq;obtain⟨m0,m1,m2,m3⟩:=HB1.out wq lq;have d12:=alq.mv.c12.1;rw[hpc]at d12;have lts:=alq.mv.lts;have hk1:=lts.1;have hig3:ig<wq.heap.size:=by omega
 have hBq:B1<wq.heap.size:=by omega
 clear alq hig2 hB1;go_region
 obtain⟨w2,hw2⟩:=hidx (wq.alloc (Obj.cells #[.int .i64 (0),.int .i64 (A:Int),.int .i64 b,.int .i64 c,.int .i64 n] 97)).drew;rw[←hw2.out]
 obtain⟨t1,ht1⟩:∃ t1,t1=s0.steps+1:=⟨_,rfl⟩
 have l2:Later w1 w2:=lq.trans (by rw[hw2.out];exact later_ad _ _);obtain⟨al2,_⟩:=HK1.out w2 l2
 have HB:Hid ((Bx2 C B1 wq.heap.size (FR:Int) (0) (A:Int) b c n (w2.setCell ⟨C.K,19,none⟩ (.int .i64 (t1:Int)))∧Al C (w2.setCell ⟨C.K,19,none⟩ (.int .i64 (t1:Int))) s q iv ov)∧((w2.setCell ⟨C.K,19,none⟩ (.int .i64 (t1:Int))).cell? ⟨B1,1,none⟩=some (.int .i64 pv)∧(w2.setCell ⟨C.K,19,none⟩ (.int .i64 (t1:Int))).cell? ⟨B1,2,none⟩=some (.slice (some ⟨ig,io,none⟩) L ic)∧(w2.setCell ⟨C.K,19,none⟩ (.int .i64 (t1:Int))).cell? ⟨B1,3,none⟩=some (.slice ma mn mc))):=by
  obtain⟨n1,n2,n3,n4,n5⟩:=HN1.out;obtain⟨f1,f2,f3,f4⟩:=lts;obtain⟨r0,r1,r2,r3⟩:=HB1.out w2 l2;have hb:∀ j v,(#[.int .i64 (0),.int .i64 (A:Int),.int .i64 b,.int .i64 c,.int .i64 n]:Array Value)[j]?=some v→w2.cell? ⟨wq.heap.size,j,none⟩=some v:=fun j v hj=>by rw[hw2.out];exact box_at wq _ hj
  have hs2:wq.heap.size<w2.heap.size:=by rw[hw2.out];exact box_lt wq _
  refine⟨⟨⟨by rw[World.size_setCell];omega,by rw[World.size_setCell];omega,⟨by omega,by omega,by omega,by omega⟩,⟨by omega,by omega,by omega,by omega⟩,?_,?_,?_,?_,?_,?_⟩,?_⟩,?_,?_,?_⟩
  ·rw[set_far' (by omega)];exact r0
  ·rw[set_far' (by omega)];exact hb 0 _ rfl
  ·rw[set_far' (by omega)];exact hb 1 _ rfl
  ·rw[set_far' (by omega)];exact hb 2 _ rfl
  ·rw[set_far' (by omega)];exact hb 3 _ rfl
  ·rw[set_far' (by omega)];exact hb 4 _ rfl
  ·rw[HSt.out.1];exact al2.tick hC ht1
  ·rw[set_far' (by omega)];exact r1
  ·rw[set_far' (by omega)];exact r2
  ·rw[set_far' (by omega)];exact r3
 obtain⟨d19,z19⟩:=al2.mv.c19;have d14:=al2.mv.c14.1;have o0:w2.cell? ⟨wq.heap.size,0,none⟩=some (.int .i64 (0)):=by rw[hw2.out];exact box_at wq _ rfl
 have nK1:¬ C.K=wq.heap.size:=by have:=lts.1;omega
 have g5:(s0.steps:Int)+1=(t1:Int):=by omega
 have g6:(t1:Int)≤1000001:=by omega
 clear al2 HN1 HK1 HB1 l2 hw2 ht1 lts e0 e1 e2 e3 e4 m0 m1 m2 m3 d12 g0 g1 g2 g3 g4 hpc hpb hpl hig3 hBq hk1 lq hsq;go_upto_if 58 with fail
 revert HB
 generalize (w2.setCell ⟨C.K,19,none⟩ (.int .i64 (t1:Int)))=wx
 generalize wq.heap.size=B2
 intro HB;clear d19 z19 d14 o0 nK1 g5 g6;have bx:=HB.out.1.1;have al:=HB.out.1.2;have bx3:=HB.out.2;have hQ:=HQ.out;have hP:=HP.out;have hS:=HSt.out;have i12:=al.mv.c12.1;have z12:=al.mv.c12.2;clear HQ HP HB HSt;have p1:=hP.1;have p2:=hP.2;have p3:(s.pc:Int)≤6000:=by omega
 have p4:-10≤q.pc:=by omega
 have p5:q.pc≤6000:=by omega
 have nK:¬ B2=C.K:=bx.n2.1;have nR:¬ B2=C.RB:=bx.n2.2.2.2;have nW:¬ B2=C.WB:=bx.n2.2.1;obtain⟨rA,zA⟩:=al.mv.reg hA;have xA:(A:Int)<16:=by omega
 have ba:=bx.a;have bb:=bx.b;have bc:=bx.c;have bn:=bx.n;have x3:=hC.d3
 have HZ:Hid (∀ w'',Later ((wx.setCell ⟨C.RB,A,none⟩ (.int .i64 (n))).setCell ⟨C.K,12,none⟩ (.int .i64 (s.pc:Int))) w''→Q unitE w''):=fun w'' l=>by
  rw[hQ];exact (al.reg1 hC hA (n)).go1 hC rfl rfl (Nat.le_succ _) l
 clear al bx bx3 hQ hP hS;unfold unitE at HZ;go_wp2_with fail
 first|exact HZ.out _ (by first|exact Later.refl _|exact Later.drew _|exact (Later.drew _).trans (Later.drew _)|exact Later.drewN' _ _)|(go_end0;exact HZ.out _ (by first|exact Later.refl _|exact Later.drew _|exact (Later.drew _).trans (Later.drew _)|exact Later.drewN' _ _))
theorem sp1_any {C:Mx}(hC:MxI C) {w:World}{s0 s:Vm}{q:Mq}{iv ov:Value}(h:Al C w s0 q iv ov) (hs:s=s0.tick) (hpc:q.pc=(s0.pc:Int)) (hpb:s0.pc+1≤6000) (hst:s0.steps≤1000000) {A B:Nat}(hA:A<16) (hB:B<16) (c n:Int) (hi:(cdAt C.x s0.fn).ins[s0.pc]?=some ⟨1,(A:Int),(B:Int),c,n⟩) :
  Calls Tryz.prog 24 #[.pointer (some ⟨C.K,0,none⟩)] w (StM C q.ev (.go (s.set (A:Int) (s.rg B)))):=by
 obtain⟨pv,ia,ic,ma,mn,mc,hcs,hci⟩:=code4 hC h.iv.fn;obtain⟨ig,io,rfl,hig,hcells⟩:=hci s0.pc _ hi;obtain⟨k1,k2,k3,k4⟩:=h.mv.lts
 have hpl:s0.pc<(cdAt C.x s0.fn).ins.length:=by
  rcases Nat.lt_or_ge s0.pc (cdAt C.x s0.fn).ins.length with k|k
  ·exact k
  ·rw[List.getElem?_eq_none k]at hi;cases hi
 have hfn:=h.iv.fn
 obtain⟨FR,hFR⟩:∃ FR,FR=frN C.x s0.fn:=⟨_,rfl⟩
 obtain⟨L,hL⟩:∃ L,L=(cdAt C.x s0.fn).ins.length:=⟨_,rfl⟩
 rw[←hL]at hcs hpl;rw[←hFR]at hcs;obtain⟨q1,q2,q3,q4⟩:=hcs w h.mv.lat;have c1:=h.mv.c1.1;have c11:=h.mv.c11.1;have j1:(s0.fn:Int)<(C.x.codes.length:Int):=by omega
 have hcg:C.cg<w.heap.size:=Nat.lt_of_lt_of_le (code_lt hC hfn) h.mv.lat.size;have hig1:ig<w.heap.size:=Nat.lt_of_lt_of_le hig h.mv.lat.size
 have HK:Hid (∀ w',Later w w'→Al C w' s0 q iv ov∧(w'.cell? ⟨ig,io+s0.pc*5,none⟩=some (.int .i64 (1))∧w'.cell? ⟨ig,io+s0.pc*5+1,none⟩=some (.int .i64 (A:Int))∧w'.cell? ⟨ig,io+s0.pc*5+2,none⟩=some (.int .i64 (B:Int))∧w'.cell? ⟨ig,io+s0.pc*5+3,none⟩=some (.int .i64 c)∧w'.cell? ⟨ig,io+s0.pc*5+4,none⟩=some (.int .i64 n))):=fun w' l=>⟨h.kept l,hcells w' (h.mv.lat.trans l)⟩
 generalize hQ:StM C q.ev (.go (s.set (A:Int) (s.rg B)))=Q at *
 have HQ:Hid (Q=StM C q.ev (.go (s.set (A:Int) (s.rg B)))):=hQ.symm
 have HP:Hid (q.pc+1=(s.pc:Int)∧s.pc≤6000):=by
  rw[hs];exact⟨by rw[hpc];rfl,hpb⟩
 have HSt:Hid (s=s0.tick∧FR=frN C.x s0.fn):=⟨hs,hFR⟩
 clear hQ h hi hcells hci hcs hL hFR hs;go_enter Tryz.func24,Tryz.ntmps24;go_wp2_with fail
 go_region
 obtain⟨w1,hw1⟩:=hidx (w.alloc (Obj.cells #[.int .i64 (FR:Int),.int .i64 pv,.slice (some ⟨ig,io,none⟩) L ic,.slice ma mn mc] 61)).drew;rw[←hw1.out];have l1:Later w w1:=by rw[hw1.out];exact later_ad _ _
 have HB1:Hid (∀ w',Later w1 w'→w'.cell? ⟨w.heap.size,0,none⟩=some (.int .i64 (FR:Int))∧w'.cell? ⟨w.heap.size,1,none⟩=some (.int .i64 pv)∧w'.cell? ⟨w.heap.size,2,none⟩=some (.slice (some ⟨ig,io,none⟩) L ic)∧w'.cell? ⟨w.heap.size,3,none⟩=some (.slice ma mn mc)):=fun w' l=>by
  have hlt:w.heap.size<w1.heap.size:=by rw[hw1.out];exact box_lt w _
  refine⟨?_,?_,?_,?_⟩
  ·rw[Below.cell l (p:=⟨w.heap.size,0,none⟩) hlt,hw1.out];exact box_at w _ rfl
  ·rw[Below.cell l (p:=⟨w.heap.size,1,none⟩) hlt,hw1.out];exact box_at w _ rfl
  ·rw[Below.cell l (p:=⟨w.heap.size,2,none⟩) hlt,hw1.out];exact box_at w _ rfl
  ·rw[Below.cell l (p:=⟨w.heap.size,3,none⟩) hlt,hw1.out];exact box_at w _ rfl
 have HN1:Hid (C.K<w.heap.size∧C.WB<w.heap.size∧C.SB<w.heap.size∧C.RB<w.heap.size∧w.heap.size<w1.heap.size):=⟨k1,k2,k3,k4,by rw[hw1.out];exact box_lt w _⟩
 have hK1:=fun w' (l:Later w1 w')=>HK.out w' (l1.trans l);have HK1:Hid (∀ w',Later w1 w'→Al C w' s0 q iv ov∧(w'.cell? ⟨ig,io+s0.pc*5,none⟩=some (.int .i64 (1))∧w'.cell? ⟨ig,io+s0.pc*5+1,none⟩=some (.int .i64 (A:Int))∧w'.cell? ⟨ig,io+s0.pc*5+2,none⟩=some (.int .i64 (B:Int))∧w'.cell? ⟨ig,io+s0.pc*5+3,none⟩=some (.int .i64 c)∧w'.cell? ⟨ig,io+s0.pc*5+4,none⟩=some (.int .i64 n))):=hK1;have hig2:ig<w1.heap.size:=Nat.lt_of_lt_of_le hig1 l1.size;have hB1:w.heap.size<w1.heap.size:=HN1.out.2.2.2.2;clear hK1 HK l1 hw1 q1 q2 q3 q4 c1 c11 j1 k1 k2 k3 k4 hig hfn hcg hig1
 generalize w.heap.size=B1 at *
 obtain⟨al1,e0,e1,e2,e3,e4⟩:=HK1.out w1 (Later.refl _);obtain⟨m0,m1,m2,m3⟩:=HB1.out w1 (Later.refl _);have d12:=al1.mv.c12.1;rw[hpc]at d12;have lts:=al1.mv.lts;have hk1:=lts.1;have g0:¬ (s0.pc:Int)<0:=by omega
 have g1:decide ((s0.pc:Int)<0)=false:=decide_eq_false g0;have g2:¬ (L:Int)≤(s0.pc:Int):=by omega
 have g3:decide ((L:Int)≤(s0.pc:Int))=false:=decide_eq_false g2;have g4:(s0.pc:Int)<(L:Int):=by omega
 clear al1;go_wp2_with fail
 go_quiet (fail)
 go_wp2_with fail
 obtain⟨wq,hwq⟩:=hidx (w1.drewN nq);rw[←hwq.out];have lq:Later w1 wq:=by rw[hwq.out];exact Later.drewN' _ _
 have hsq:w1.heap.size≤wq.heap.size:=lq.size;clear hwq e0 e1 e2 e3 e4 m0 m1 m2 m3 d12 hk1 lts;obtain⟨alq,e0,e1,e2,e3,e4⟩:=HK1.out wq lq;obtain⟨m0,m1,m2,m3⟩:=HB1.out wq lq;have d12:=alq.mv.c12.1;rw[hpc]at d12;have lts:=alq.mv.lts;have hk1:=lts.1;have hig3:ig<wq.heap.size:=by omega
 have hBq:B1<wq.heap.size:=by omega
 clear alq hig2 hB1;go_region
 obtain⟨w2,hw2⟩:=hidx (wq.alloc (Obj.cells #[.int .i64 (1),.int .i64 (A:Int),.int .i64 (B:Int),.int .i64 c,.int .i64 n] 97)).drew;rw[←hw2.out]
 obtain⟨t1,ht1⟩:∃ t1,t1=s0.steps+1:=⟨_,rfl⟩
 have l2:Later w1 w2:=lq.trans (by rw[hw2.out];exact later_ad _ _);obtain⟨al2,_⟩:=HK1.out w2 l2
 have HB:Hid ((Bx2 C B1 wq.heap.size (FR:Int) (1) (A:Int) (B:Int) c n (w2.setCell ⟨C.K,19,none⟩ (.int .i64 (t1:Int)))∧Al C (w2.setCell ⟨C.K,19,none⟩ (.int .i64 (t1:Int))) s q iv ov)∧((w2.setCell ⟨C.K,19,none⟩ (.int .i64 (t1:Int))).cell? ⟨B1,1,none⟩=some (.int .i64 pv)∧(w2.setCell ⟨C.K,19,none⟩ (.int .i64 (t1:Int))).cell? ⟨B1,2,none⟩=some (.slice (some ⟨ig,io,none⟩) L ic)∧(w2.setCell ⟨C.K,19,none⟩ (.int .i64 (t1:Int))).cell? ⟨B1,3,none⟩=some (.slice ma mn mc))):=by
  obtain⟨n1,n2,n3,n4,n5⟩:=HN1.out;obtain⟨f1,f2,f3,f4⟩:=lts;obtain⟨r0,r1,r2,r3⟩:=HB1.out w2 l2;have hb:∀ j v,(#[.int .i64 (1),.int .i64 (A:Int),.int .i64 (B:Int),.int .i64 c,.int .i64 n]:Array Value)[j]?=some v→w2.cell? ⟨wq.heap.size,j,none⟩=some v:=fun j v hj=>by rw[hw2.out];exact box_at wq _ hj
  have hs2:wq.heap.size<w2.heap.size:=by rw[hw2.out];exact box_lt wq _
  refine⟨⟨⟨by rw[World.size_setCell];omega,by rw[World.size_setCell];omega,⟨by omega,by omega,by omega,by omega⟩,⟨by omega,by omega,by omega,by omega⟩,?_,?_,?_,?_,?_,?_⟩,?_⟩,?_,?_,?_⟩
  ·rw[set_far' (by omega)];exact r0
  ·rw[set_far' (by omega)];exact hb 0 _ rfl
  ·rw[set_far' (by omega)];exact hb 1 _ rfl
  ·rw[set_far' (by omega)];exact hb 2 _ rfl
  ·rw[set_far' (by omega)];exact hb 3 _ rfl
  ·rw[set_far' (by omega)];exact hb 4 _ rfl
  ·rw[HSt.out.1];exact al2.tick hC ht1
  ·rw[set_far' (by omega)];exact r1
  ·rw[set_far' (by omega)];exact r2
  ·rw[set_far' (by omega)];exact r3
 obtain⟨d19,z19⟩:=al2.mv.c19;have d14:=al2.mv.c14.1;have o0:w2.cell? ⟨wq.heap.size,0,none⟩=some (.int .i64 (1)):=by rw[hw2.out];exact box_at wq _ rfl
 have nK1:¬ C.K=wq.heap.size:=by have:=lts.1;omega
 have g5:(s0.steps:Int)+1=(t1:Int):=by omega
 have g6:(t1:Int)≤1000001:=by omega
 clear al2 HN1 HK1 HB1 l2 hw2 ht1 lts e0 e1 e2 e3 e4 m0 m1 m2 m3 d12 g0 g1 g2 g3 g4 hpc hpb hpl hig3 hBq hk1 lq hsq;go_upto_if 58 with fail
 revert HB
 generalize (w2.setCell ⟨C.K,19,none⟩ (.int .i64 (t1:Int)))=wx
 generalize wq.heap.size=B2
 intro HB;clear d19 z19 d14 o0 nK1 g5 g6;have bx:=HB.out.1.1;have al:=HB.out.1.2;have bx3:=HB.out.2;have hQ:=HQ.out;have hP:=HP.out;have hS:=HSt.out;have i12:=al.mv.c12.1;have z12:=al.mv.c12.2;clear HQ HP HB HSt;have p1:=hP.1;have p2:=hP.2;have p3:(s.pc:Int)≤6000:=by omega
 have p4:-10≤q.pc:=by omega
 have p5:q.pc≤6000:=by omega
 have nK:¬ B2=C.K:=bx.n2.1;have nR:¬ B2=C.RB:=bx.n2.2.2.2;have nW:¬ B2=C.WB:=bx.n2.2.1;obtain⟨rA,zA⟩:=al.mv.reg hA;have xA:(A:Int)<16:=by omega
 obtain⟨rB,zB⟩:=al.mv.reg hB;have xB:(B:Int)<16:=by omega
 have ba:=bx.a;have bb:=bx.b;have bc:=bx.c;have bn:=bx.n;have x3:=hC.d3
 have HZ:Hid (∀ w'',Later ((wx.setCell ⟨C.RB,A,none⟩ (.int .i64 (s.rg B))).setCell ⟨C.K,12,none⟩ (.int .i64 (s.pc:Int))) w''→Q unitE w''):=fun w'' l=>by
  rw[hQ];exact (al.reg1 hC hA (s.rg B)).go1 hC rfl rfl (Nat.le_succ _) l
 clear al bx bx3 hQ hP hS;unfold unitE at HZ;go_wp2_with fail
 go_region
 go_wp2_with fail
 first|exact HZ.out _ (by first|exact Later.refl _|exact Later.drew _|exact (Later.drew _).trans (Later.drew _)|exact Later.drewN' _ _)|(go_end0;exact HZ.out _ (by first|exact Later.refl _|exact Later.drew _|exact (Later.drew _).trans (Later.drew _)|exact Later.drewN' _ _))
end Go.Proofs.YtjnpncefkigcbaaGreat
