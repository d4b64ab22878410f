import Derived.Test.YtjnpncefkigcbaaGreatIo
set_option maxHeartbeats 100000000
set_option maxRecDepth 100000
namespace Go.Proofs.YtjnpncefkigcbaaGreat
open Go.RowKit Go.Lib Go.Maps
theorem mo22_any {C:Mx}(hC:MxI C) {w:World}{s:Vm}{q:Mq}{iv ov:Value}(h:Al C w s q iv ov) (hpc:q.pc+1=(s.pc:Int)) (hpb:s.pc≤6000) {A N:Nat}(hA:A<16) (hN:N≤3) (fr:Int) (hfr:fr=((frN C.x s.fn:Nat):Int)) (v1 v2 v3:Value) (b c:Int) :
  Calls Tryz.prog 53 #[.pointer (some ⟨C.K,0,none⟩),.agg #[.int .i64 fr,v1,v2,v3],.agg #[.int .i64 22,.int .i64 (A:Int),.int .i64 b,.int .i64 c,.int .i64 (N:Int)]] w (StM C q.ev (.go { s with W:=fset s.W (s.top C.x+3+N) (s.rg A) })):=by
 have c14:=h.mv.c14.1;obtain⟨k1,k2,k3,k4⟩:=h.mv.lts;have hlx:Later w ((w.alloc (Obj.cells #[.int .i64 fr,v1,v2,v3] 61)).alloc (Obj.cells #[.int .i64 22,.int .i64 (A:Int),.int .i64 b,.int .i64 c,.int .i64 (N:Int)] 97)):=(later_a _ _).trans (later_a _ _)
 have HB:Hid (Bx2 C w.heap.size (w.heap.size+1) fr 22 (A:Int) b c (N:Int) ((w.alloc (Obj.cells #[.int .i64 fr,v1,v2,v3] 61)).alloc (Obj.cells #[.int .i64 22,.int .i64 (A:Int),.int .i64 b,.int .i64 c,.int .i64 (N:Int)] 97))∧Al C ((w.alloc (Obj.cells #[.int .i64 fr,v1,v2,v3] 61)).alloc (Obj.cells #[.int .i64 22,.int .i64 (A:Int),.int .i64 b,.int .i64 c,.int .i64 (N:Int)] 97)) s q iv ov):=⟨by simpa using bx2_new h.mv 61 97 fr 22 (A:Int) b c (N:Int) v1 v2 v3,h.kept hlx⟩
 have HFR:Hid (fr=((frN C.x s.fn:Nat):Int)):=hfr;clear hfr
 generalize hQ:StM C q.ev (.go { s with W:=fset s.W (s.top C.x+3+N) (s.rg A) })=Q at *
 have HQ:Hid (Q=StM C q.ev (.go { s with W:=fset s.W (s.top C.x+3+N) (s.rg A) })):=hQ.symm
 have HP:Hid (q.pc+1=(s.pc:Int)∧s.pc≤6000):=⟨hpc,hpb⟩
 clear h hpc hpb hlx hQ;go_enter Tryz.func53,Tryz.ntmps53;go_upto_if 21 with fail
 revert HB
 generalize ((w.alloc (Obj.cells #[.int .i64 fr,v1,v2,v3] 61)).alloc (Obj.cells #[.int .i64 22,.int .i64 (A:Int),.int .i64 b,.int .i64 c,.int .i64 (N:Int)] 97))=wx
 generalize w.heap.size+1=B2
 generalize w.heap.size=B1
 intro HB;have bx:=HB.out.1;have al:=HB.out.2;have hQ:=HQ.out;have hP:=HP.out;have i12:=al.mv.c12.1;have z12:=al.mv.c12.2;clear c14 k1 k2 k3 k4 HQ HP HB;have p1:=hP.1;have p2:=hP.2;have p3:(s.pc:Int)≤6000:=by omega
 have p4:-10≤q.pc:=by omega
 have p5:q.pc≤6000:=by omega
 have nK:¬ B2=C.K:=bx.n2.1;have nR:¬ B2=C.RB:=bx.n2.2.2.2;have nW:¬ B2=C.WB:=bx.n2.2.1;obtain⟨rA,zA⟩:=al.mv.reg hA;have xA:(A:Int)<16:=by omega
 have ba:=bx.a;have bb:=bx.b;have bc:=bx.c;have bn:=bx.n;have hb2:=al.iv.b2;have hb3:=al.iv.b3;have htop:s.top C.x=s.fp+frN C.x s.fn:=rfl;have hfc:=(hC.xi.at al.iv.fn).fr;have hCN:=hC.hN
 obtain⟨ad,had⟩:∃ ad,ad=s.top C.x+3+N:=⟨_,rfl⟩
 obtain⟨FR,hFR⟩:∃ FR,FR=frN C.x s.fn:=⟨_,rfl⟩
 obtain⟨E,hE⟩:∃ E,E=s.top C.x:=⟨_,rfl⟩
 obtain⟨E3,hE3⟩:∃ E3,E3=s.top C.x+3:=⟨_,rfl⟩
 have HZ:Hid (∀ w'',Later ((wx.setCell ⟨C.WB,ad,none⟩ (.int .i64 (s.rg A))).setCell ⟨C.K,12,none⟩ (.int .i64 (s.pc:Int))) w''→Q unitE w''):=fun w'' l=>by
  rw[hQ,← had];exact (al.word hC (a:=ad) (by omega) (s.rg A) (al.iv.slot hC.xi _ (by omega) (by omega))).go1 hC rfl rfl (Nat.le_succ _) l
 have bf:=bx.f;rw[HFR.out,← hFR]at bf;have d3:=al.mv.c3.1;have d10:=al.mv.c10.1;obtain⟨dw,zw⟩:=al.mv.word (a:=ad) (by omega);have g1:(s.fp:Int)+(FR:Int)=(E:Int):=by omega
 have g2:(E:Int)+3=(E3:Int):=by omega
 have g3:(E3:Int)+(N:Int)=(ad:Int):=by omega
 have g4:(E:Int)≤12000:=by omega
 have g5:(E3:Int)≤12000:=by omega
 have g6:(ad:Int)≤12000:=by omega
 have g7:(ad:Int)<(C.N:Int):=by omega
 have e1:=hC.d1;clear al bx hQ hP HFR had hFR hE hE3 htop hfc hb2 hb3 hCN;unfold unitE at HZ;go_wp2_with fail
 go_region
 go_wp2_with fail
 first|exact HZ.out _ (by first|exact Later.refl _|exact Later.drew _|exact (Later.drew _).trans (Later.drew _)|exact Later.drewN' _ _)|(go_end0;exact HZ.out _ (by first|exact Later.refl _|exact Later.drew _|exact (Later.drew _).trans (Later.drew _)|exact Later.drewN' _ _))
theorem mo13_any {C:Mx}(hC:MxI C) {w:World}{s:Vm}{q:Mq}{iv ov:Value}(h:Al C w s q iv ov) (hpc:q.pc+1=(s.pc:Int)) (hpb:s.pc≤6000) {A B:Nat}(hA:A<16) (hB:B<16) (r:St) (h0:s.len C.H (s.rg A)=none→r=.fin 7 0 s) (h1:∀ z,s.len C.H (s.rg A)=some z→r=if 0≤s.rg B∧s.rg B<z then .go s else .fin 3 2 s) (fr:Int) (v1 v2 v3:Value) (c n:Int) :
  Calls Tryz.prog 53 #[.pointer (some ⟨C.K,0,none⟩),.agg #[.int .i64 fr,v1,v2,v3],.agg #[.int .i64 13,.int .i64 (A:Int),.int .i64 (B:Int),.int .i64 c,.int .i64 n]] w (StM C q.ev (r)):=by
 have c14:=h.mv.c14.1;obtain⟨k1,k2,k3,k4⟩:=h.mv.lts;have hlx:Later w ((w.alloc (Obj.cells #[.int .i64 fr,v1,v2,v3] 61)).alloc (Obj.cells #[.int .i64 13,.int .i64 (A:Int),.int .i64 (B:Int),.int .i64 c,.int .i64 n] 97)):=(later_a _ _).trans (later_a _ _)
 have HB:Hid (Bx2 C w.heap.size (w.heap.size+1) fr 13 (A:Int) (B:Int) c n ((w.alloc (Obj.cells #[.int .i64 fr,v1,v2,v3] 61)).alloc (Obj.cells #[.int .i64 13,.int .i64 (A:Int),.int .i64 (B:Int),.int .i64 c,.int .i64 n] 97))∧Al C ((w.alloc (Obj.cells #[.int .i64 fr,v1,v2,v3] 61)).alloc (Obj.cells #[.int .i64 13,.int .i64 (A:Int),.int .i64 (B:Int),.int .i64 c,.int .i64 n] 97)) s q iv ov):=⟨by simpa using bx2_new h.mv 61 97 fr 13 (A:Int) (B:Int) c n v1 v2 v3,h.kept hlx⟩
 generalize hQ:StM C q.ev (r)=Q at *
 have HQ:Hid (Q=StM C q.ev (r)):=hQ.symm
 have HP:Hid (q.pc+1=(s.pc:Int)∧s.pc≤6000):=⟨hpc,hpb⟩
 clear h hpc hpb hlx hQ;go_enter Tryz.func53,Tryz.ntmps53;go_upto_if 21 with fail
 revert HB
 generalize ((w.alloc (Obj.cells #[.int .i64 fr,v1,v2,v3] 61)).alloc (Obj.cells #[.int .i64 13,.int .i64 (A:Int),.int .i64 (B:Int),.int .i64 c,.int .i64 n] 97))=wx
 generalize w.heap.size+1=B2
 generalize w.heap.size=B1
 intro HB;have bx:=HB.out.1;have al:=HB.out.2;have hQ:=HQ.out;have hP:=HP.out;have i12:=al.mv.c12.1;have z12:=al.mv.c12.2;clear c14 k1 k2 k3 k4 HQ HP HB;have p1:=hP.1;have p2:=hP.2;have p3:(s.pc:Int)≤6000:=by omega
 have p4:-10≤q.pc:=by omega
 have p5:q.pc≤6000:=by omega
 have nK:¬ B2=C.K:=bx.n2.1;have nR:¬ B2=C.RB:=bx.n2.2.2.2;have nW:¬ B2=C.WB:=bx.n2.2.1;obtain⟨rA,zA⟩:=al.mv.reg hA;have xA:(A:Int)<16:=by omega
 obtain⟨rB,zB⟩:=al.mv.reg hB;have xB:(B:Int)<16:=by omega
 have ba:=bx.a;have bb:=bx.b;have bc:=bx.c;have bn:=bx.n;have HL:Hid (Calls Tryz.prog 52 #[.pointer (some ⟨C.K,0,none⟩),.int .i64 (s.rg A)] wx (LkQ C wx s q iv ov 0 (s.len C.H (s.rg A)))):=llen_any hC al (s.rg A);have d22:=al.mv.c22.1;rw[al.en]at d22
 cases hl:s.len C.H (s.rg A) with
 | none =>
  have hr:=h0 hl
  have HZ:Hid (∀ w' w'',Mv C w' s (q.stop 7 0) iv ov→Later (w'.setCell ⟨C.K,12,none⟩ (.int .i64 (s.pc:Int))) w''→Q unitE w''):=fun w' w'' m l=>by
   rw[hQ];exact st_finM hr (((al.stop m).pcs hC _).kept l)
  have H12:Hid (∀ w',Mv C w' s (q.stop 7 0) iv ov→(w'.cell? ⟨C.K,12,none⟩=some (.int .i64 q.pc)∧w'.frozen? ⟨C.K,12,none⟩=false)∧w'.cell? ⟨C.K,22,none⟩=some (.int .i64 7)):=fun w' m=>by
   have:=m.c12;rw[stop_pc]at this;refine⟨this,?_⟩;rw[m.c22.1];unfold Mq.stop;rw[if_pos al.en]
  clear al bx hQ hP h0 h1 hr;go_wp2_with fail
  refine HL.out.mono ?_;intro n1 w1 hq1;obtain⟨rfl,m1,_⟩:=hq1.none hl;obtain⟨⟨j12,y12⟩,j22⟩:=H12.out w1 m1;have HZ2:Hid (∀ w'',Later (w1.setCell ⟨C.K,12,none⟩ (.int .i64 (s.pc:Int))) w''→Q unitE w''):=fun w''=>HZ.out w1 w'' m1;clear HZ H12 HL m1 hq1 d22 i12 z12;unfold unitE at HZ2;go_wp2_with fail
  first|exact HZ2.out _ (Later.refl _)|(go_end0;exact HZ2.out _ (Later.refl _))
 | some z =>
  have hr:=h1 z hl;have HSp:Hid (∀ w',Later wx w'→Calls Tryz.prog 23 #[.pointer (some ⟨C.K,0,none⟩),.int .i64 3,.int .i64 2] w' (MQ C w' unitE s (q.stop 3 2) iv ov)):=fun w' l=>lstop_any hC (al.mv.kept l) 3 2
  have HK:Hid (∀ w',Later wx w'→Al C w' s q iv ov∧Bx2 C B1 B2 fr 13 (A:Int) (B:Int) c n w'):=fun w' l=>⟨al.kept l,bx.kept l⟩
  have HZf:Hid (¬ (0≤s.rg B∧s.rg B<z)→∀ w' w'',Mv C w' s (q.stop 3 2) iv ov→Later (w'.setCell ⟨C.K,12,none⟩ (.int .i64 (s.pc:Int))) w''→Q unitE w''):=fun k w' w'' m l=>by
   rw[hQ];exact st_finM (by rw[hr,if_neg k]) (((al.stop m).pcs hC _).kept l)
  have HZg:Hid ((0≤s.rg B∧s.rg B<z)→∀ w' w'',Later wx w'→Later (w'.setCell ⟨C.K,12,none⟩ (.int .i64 (s.pc:Int))) w''→Q unitE w''):=fun k w' w'' l l2=>by
   rw[hQ];exact (al.kept l).go1 hC (by rw[hr,if_pos k]) rfl (Nat.le_succ _) l2
  have H12:Hid (∀ w',Mv C w' s (q.stop 3 2) iv ov→(w'.cell? ⟨C.K,12,none⟩=some (.int .i64 q.pc)∧w'.frozen? ⟨C.K,12,none⟩=false)):=fun w' m=>by
   have:=m.c12;rw[stop_pc]at this;exact this
  have hen:=al.en;clear al bx hQ hP h0 h1 hr;go_wp2_with fail
  refine HL.out.mono ?_;intro n1 w1 hq1;obtain⟨rfl,l1⟩:=hq1.some hl;obtain⟨al,bx⟩:=HK.out w1 l1;clear rA zA rB zB ba bb bc bn d22 i12 z12;obtain⟨rB,zB⟩:=al.mv.reg hB;have bb:=bx.b;have d22:=al.mv.c22.1;rw[hen]at d22;have i12:=al.mv.c12.1;have z12:=al.mv.c12.2;clear HL hq1 HK al bx hen;by_cases h0:0≤s.rg B
  ·have hn0:¬ s.rg B<0:=by omega
   have hd0:decide (s.rg B<0)=false:=decide_eq_false hn0;by_cases h1:s.rg B<z
   ·have hn1:¬ z≤s.rg B:=by omega
    have hd1:decide (z≤s.rg B)=false:=decide_eq_false hn1;have HZ2:Hid (∀ w'',Later (w1.setCell ⟨C.K,12,none⟩ (.int .i64 (s.pc:Int))) w''→Q unitE w''):=fun w''=>HZg.out ⟨h0,h1⟩ w1 w'' l1;clear HZf HZg H12 HSp;unfold unitE at HZ2;go_wp2_with fail
    first|exact HZ2.out _ (Later.refl _)|(go_end0;exact HZ2.out _ (Later.refl _))
   ·have hn1:z≤s.rg B:=by omega
    have hd1:decide (z≤s.rg B)=true:=decide_eq_true hn1;have HZf2:Hid (∀ w' w'',Mv C w' s (q.stop 3 2) iv ov→Later (w'.setCell ⟨C.K,12,none⟩ (.int .i64 (s.pc:Int))) w''→Q unitE w''):=HZf.out (fun k=>h1 k.2);go_wp2_with fail
    refine (HSp.out _ l1).mono ?_;rintro n2 w2 ⟨rfl,m2,_⟩;obtain⟨j12,y12⟩:=H12.out w2 m2;have HZ2:Hid (∀ w'',Later (w2.setCell ⟨C.K,12,none⟩ (.int .i64 (s.pc:Int))) w''→Q unitE w''):=fun w''=>HZf2.out w2 w'' m2;clear HZf2 HZf HZg H12 HSp m2;unfold unitE at HZ2 ⊢;go_wp2_with fail
    first|exact HZ2.out _ (Later.refl _)|(go_end0;exact HZ2.out _ (Later.refl _))
  ·have hn0:s.rg B<0:=by omega
   have hd0:decide (s.rg B<0)=true:=decide_eq_true hn0;have HZf2:Hid (∀ w' w'',Mv C w' s (q.stop 3 2) iv ov→Later (w'.setCell ⟨C.K,12,none⟩ (.int .i64 (s.pc:Int))) w''→Q unitE w''):=HZf.out (fun k=>h0 k.1);go_wp2_with fail
   refine (HSp.out _ l1).mono ?_;rintro n2 w2 ⟨rfl,m2,_⟩;obtain⟨j12,y12⟩:=H12.out w2 m2;have HZ2:Hid (∀ w'',Later (w2.setCell ⟨C.K,12,none⟩ (.int .i64 (s.pc:Int))) w''→Q unitE w''):=fun w''=>HZf2.out w2 w'' m2;clear HZf2 HZf HZg H12 HSp m2;unfold unitE at HZ2 ⊢;go_wp2_with fail
   first|exact HZ2.out _ (Later.refl _)|(go_end0;exact HZ2.out _ (Later.refl _))
theorem mo11_any {C:Mx}(hC:MxI C) {w:World}{s:Vm}{q:Mq}{iv ov:Value}(h:Al C w s q iv ov) (hpc:q.pc+1=(s.pc:Int)) (hpb:s.pc≤6000) {A B N:Nat}(hA:A<16) (hB:B<16) (hN:N≤2) (hs:SafeAt C.x s.fn ((s.pc:Int) - 1)) (hmv:s.moves≤999990) (hev:q.ev≤1000000) (r:St) (h0:¬ (0≤s.rg B∧s.rg B≤100)→r=.fin 7 0 s) (h1:∀ k:Nat,s.rg B=(k:Int)→k≤100→r=s.take C.x C.H ((k*8+1+N:Nat):Int) k A) (hI:∀ t,r=.go t→Iv C.x C.H t) (fr:Int) (v1 v2 v3:Value) (c:Int) :
  Calls Tryz.prog 53 #[.pointer (some ⟨C.K,0,none⟩),.agg #[.int .i64 fr,v1,v2,v3],.agg #[.int .i64 11,.int .i64 (A:Int),.int .i64 (B:Int),.int .i64 c,.int .i64 (N:Int)]] w (StM C q.ev (r)):=by
 have c14:=h.mv.c14.1;obtain⟨k1,k2,k3,k4⟩:=h.mv.lts;have hlx:Later w ((w.alloc (Obj.cells #[.int .i64 fr,v1,v2,v3] 61)).alloc (Obj.cells #[.int .i64 11,.int .i64 (A:Int),.int .i64 (B:Int),.int .i64 c,.int .i64 (N:Int)] 97)):=(later_a _ _).trans (later_a _ _)
 have HB:Hid (Bx2 C w.heap.size (w.heap.size+1) fr 11 (A:Int) (B:Int) c (N:Int) ((w.alloc (Obj.cells #[.int .i64 fr,v1,v2,v3] 61)).alloc (Obj.cells #[.int .i64 11,.int .i64 (A:Int),.int .i64 (B:Int),.int .i64 c,.int .i64 (N:Int)] 97))∧Al C ((w.alloc (Obj.cells #[.int .i64 fr,v1,v2,v3] 61)).alloc (Obj.cells #[.int .i64 11,.int .i64 (A:Int),.int .i64 (B:Int),.int .i64 c,.int .i64 (N:Int)] 97)) s q iv ov):=⟨by simpa using bx2_new h.mv 61 97 fr 11 (A:Int) (B:Int) c (N:Int) v1 v2 v3,h.kept hlx⟩
 generalize hQ:StM C q.ev (r)=Q at *
 have HQ:Hid (Q=StM C q.ev (r)):=hQ.symm
 have HP:Hid (q.pc+1=(s.pc:Int)∧s.pc≤6000):=⟨hpc,hpb⟩
 clear h hpc hpb hlx hQ;go_enter Tryz.func53,Tryz.ntmps53;go_upto_if 21 with fail
 revert HB
 generalize ((w.alloc (Obj.cells #[.int .i64 fr,v1,v2,v3] 61)).alloc (Obj.cells #[.int .i64 11,.int .i64 (A:Int),.int .i64 (B:Int),.int .i64 c,.int .i64 (N:Int)] 97))=wx
 generalize w.heap.size+1=B2
 generalize w.heap.size=B1
 intro HB;have bx:=HB.out.1;have al:=HB.out.2;have hQ:=HQ.out;have hP:=HP.out;have i12:=al.mv.c12.1;have z12:=al.mv.c12.2;clear c14 k1 k2 k3 k4 HQ HP HB;have p1:=hP.1;have p2:=hP.2;have p3:(s.pc:Int)≤6000:=by omega
 have p4:-10≤q.pc:=by omega
 have p5:q.pc≤6000:=by omega
 have nK:¬ B2=C.K:=bx.n2.1;have nR:¬ B2=C.RB:=bx.n2.2.2.2;have nW:¬ B2=C.WB:=bx.n2.2.1;obtain⟨rA,zA⟩:=al.mv.reg hA;have xA:(A:Int)<16:=by omega
 obtain⟨rB,zB⟩:=al.mv.reg hB;have xB:(B:Int)<16:=by omega
 have ba:=bx.a;have bb:=bx.b;have bc:=bx.c;have bn:=bx.n;by_cases hk:0≤s.rg B∧s.rg B≤100
 ·obtain⟨k,hk2⟩:∃ k:Nat,s.rg B=(k:Int):=⟨(s.rg B).toNat,by omega⟩
  have hr:=h1 k hk2 (by omega)
  obtain⟨k8,hk8⟩:∃ k8,k8=8*k:=⟨_,rfl⟩
  obtain⟨k9,hk9⟩:∃ k9,k9=8*k+1:=⟨_,rfl⟩
  obtain⟨hd,hhd⟩:∃ hd,hd=k*8+1+N:=⟨_,rfl⟩
  rw[←hhd]at hr
  have HTk:Hid (Calls Tryz.prog 81 #[.pointer (some ⟨C.K,0,none⟩),.int .i64 (hd:Int),.int .i64 (k:Int)] wx (TkM C wx iv ov A Q)):=by
   have:=al.take hC hs hP.1 hP.2 hmv hev (hd:=(hd:Int)) (n:=k) (A:=A) (by omega) hA (fun t e=>hI t (hr.trans e));rw[hQ,hr];exact this
  have HBx:Hid (∀ w',OnlyL C wx w'→Bx2 C B1 B2 fr 11 (A:Int) (B:Int) c (N:Int) w'):=fun w' o=>bx.only o;rw[hk2]at rB;have g1:¬ (k:Int)<0:=by omega
  have g2:decide ((k:Int)<0)=false:=decide_eq_false g1;have g3:¬ (100:Int)<(k:Int):=by omega
  have g4:decide ((100:Int)<(k:Int))=false:=decide_eq_false g3;have g5:(8:Int)*(k:Int)=(k8:Int):=by omega
  have g6:(k8:Int)+1=(k9:Int):=by omega
  have g7:(k9:Int)+(N:Int)=(hd:Int):=by omega
  have g8:(k8:Int)≤900:=by omega
  have g9:(k9:Int)≤900:=by omega
  have g10:(hd:Int)≤903:=by omega
  have x3:=hC.d3;clear al bx hQ hP h0 h1 hI hs hr hk hk2 hk8 hk9 hhd;go_wp2_with fail
  refine HTk.out.mono ?_;intro n1 w1 hq1;obtain⟨v,pz,rfl,o1,_,⟨j12,y12⟩,⟨⟨ub,jA⟩,yA⟩,HE⟩:=hq1;have bx1:=HBx.out w1 o1;have ba1:=bx1.a;have hww:IntKind.i64.wrap (pz+1)=wrap64 (pz+1):=by unfold wrap64;exact IntKind.wrap_i64 _
  rw[hww]at HE;have HE2:Hid (∀ w'',Later ((w1.setCell ⟨C.RB,A,none⟩ (.int .i64 v)).setCell ⟨C.K,12,none⟩ (.int .i64 (wrap64 (pz+1)))) w''→Q unitE w''):=HE;clear hww HE bx1 HBx o1 HTk i12 z12;unfold unitE at HE2;go_wp2_with fail
  first|exact HE2.out _ (Later.refl _)|(go_end0;exact HE2.out _ (Later.refl _))
 ·have hr:=h0 hk;have hor:s.rg B<0∨(¬ s.rg B<0∧100<s.rg B):=by omega
  rcases hor with hlt|⟨hge,hgt⟩
  ·have g2:decide (s.rg B<0)=true:=decide_eq_true hlt;have HSp:Hid (∀ w',Later wx w'→Calls Tryz.prog 23 #[.pointer (some ⟨C.K,0,none⟩),.int .i64 7,.int .i64 0] w' (MQ C w' unitE s (q.stop 7 0) iv ov)):=fun w' l=>lstop_any hC (al.mv.kept l) 7 0
   have HZ:Hid (∀ w' w'',Mv C w' s (q.stop 7 0) iv ov→Later (w') w''→Q unitE w''):=fun w' w'' m l=>by
    rw[hQ];exact st_finM (hr) (FinM.kept (al.stop m) l)
   have H12:Hid (∀ w',Mv C w' s (q.stop 7 0) iv ov→w'.cell? ⟨C.K,12,none⟩=some (.int .i64 q.pc)∧w'.frozen? ⟨C.K,12,none⟩=false):=fun w' m=>by
    have e1:(q.stop 7 0).pc=q.pc:=by unfold Mq.stop;split <;> rfl
    have:=m.c12;rw[e1]at this;exact this
   clear al bx hQ hP h0 h1 hI hs hr;go_wp2_with fail
   refine (HSp.out _ (Later.refl _)).mono ?_;rintro n1 w1 ⟨rfl,m1,o1⟩;obtain⟨j12,y12⟩:=H12.out w1 m1;have HZ1:=fun w''=>HZ.out w1 w'' m1;have HZ2:Hid (∀ w'',Later (w1) w''→Q unitE w''):=HZ1;clear HZ1 HZ H12 HSp m1 o1;unfold unitE at HZ2 ⊢;go_wp2_with fail
   first|exact HZ2.out _ (Later.refl _)|(go_end0;exact HZ2.out _ (Later.refl _))
  ·have g2:decide (s.rg B<0)=false:=decide_eq_false hge;have g3:decide ((100:Int)<s.rg B)=true:=decide_eq_true hgt;have HSp:Hid (∀ w',Later wx w'→Calls Tryz.prog 23 #[.pointer (some ⟨C.K,0,none⟩),.int .i64 7,.int .i64 0] w' (MQ C w' unitE s (q.stop 7 0) iv ov)):=fun w' l=>lstop_any hC (al.mv.kept l) 7 0
   have HZ:Hid (∀ w' w'',Mv C w' s (q.stop 7 0) iv ov→Later (w') w''→Q unitE w''):=fun w' w'' m l=>by
    rw[hQ];exact st_finM (hr) (FinM.kept (al.stop m) l)
   have H12:Hid (∀ w',Mv C w' s (q.stop 7 0) iv ov→w'.cell? ⟨C.K,12,none⟩=some (.int .i64 q.pc)∧w'.frozen? ⟨C.K,12,none⟩=false):=fun w' m=>by
    have e1:(q.stop 7 0).pc=q.pc:=by unfold Mq.stop;split <;> rfl
    have:=m.c12;rw[e1]at this;exact this
   clear al bx hQ hP h0 h1 hI hs hr;go_wp2_with fail
   refine (HSp.out _ (Later.refl _)).mono ?_;rintro n1 w1 ⟨rfl,m1,o1⟩;obtain⟨j12,y12⟩:=H12.out w1 m1;have HZ1:=fun w''=>HZ.out w1 w'' m1;have HZ2:Hid (∀ w'',Later (w1) w''→Q unitE w''):=HZ1;clear HZ1 HZ H12 HSp m1 o1;unfold unitE at HZ2 ⊢;go_wp2_with fail
   first|exact HZ2.out _ (Later.refl _)|(go_end0;exact HZ2.out _ (Later.refl _))
theorem mo10_any {C:Mx}(hC:MxI C) {w:World}{s:Vm}{q:Mq}{iv ov:Value}(h:Al C w s q iv ov) (hpc:q.pc+1=(s.pc:Int)) (hpb:s.pc≤6000) {A N N8:Nat}(hA:A<16) (hN:N<C.x.structs.length) (h8:N8=N*8) (hs:SafeAt C.x s.fn ((s.pc:Int) - 1)) (hmv:s.moves≤999990) (hev:q.ev≤1000000) (hI:∀ t,s.take C.x C.H (N8:Int) (stAt C.x N).length A=.go t→Iv C.x C.H t) (fr:Int) (v1 v2 v3:Value) (b c:Int) :
  Calls Tryz.prog 53 #[.pointer (some ⟨C.K,0,none⟩),.agg #[.int .i64 fr,v1,v2,v3],.agg #[.int .i64 10,.int .i64 (A:Int),.int .i64 b,.int .i64 c,.int .i64 (N:Int)]] w (StM C q.ev (s.take C.x C.H (N8:Int) (stAt C.x N).length A)):=by
 have c14:=h.mv.c14.1;obtain⟨k1,k2,k3,k4⟩:=h.mv.lts;have hlx:Later w ((w.alloc (Obj.cells #[.int .i64 fr,v1,v2,v3] 61)).alloc (Obj.cells #[.int .i64 10,.int .i64 (A:Int),.int .i64 b,.int .i64 c,.int .i64 (N:Int)] 97)):=(later_a _ _).trans (later_a _ _)
 have HB:Hid (Bx2 C w.heap.size (w.heap.size+1) fr 10 (A:Int) b c (N:Int) ((w.alloc (Obj.cells #[.int .i64 fr,v1,v2,v3] 61)).alloc (Obj.cells #[.int .i64 10,.int .i64 (A:Int),.int .i64 b,.int .i64 c,.int .i64 (N:Int)] 97))∧Al C ((w.alloc (Obj.cells #[.int .i64 fr,v1,v2,v3] 61)).alloc (Obj.cells #[.int .i64 10,.int .i64 (A:Int),.int .i64 b,.int .i64 c,.int .i64 (N:Int)] 97)) s q iv ov):=⟨by simpa using bx2_new h.mv 61 97 fr 10 (A:Int) b c (N:Int) v1 v2 v3,h.kept hlx⟩
 generalize hQ:StM C q.ev (s.take C.x C.H (N8:Int) (stAt C.x N).length A)=Q at *
 have HQ:Hid (Q=StM C q.ev (s.take C.x C.H (N8:Int) (stAt C.x N).length A)):=hQ.symm
 have HP:Hid (q.pc+1=(s.pc:Int)∧s.pc≤6000):=⟨hpc,hpb⟩
 clear h hpc hpb hlx hQ;go_enter Tryz.func53,Tryz.ntmps53;go_upto_if 21 with fail
 revert HB
 generalize ((w.alloc (Obj.cells #[.int .i64 fr,v1,v2,v3] 61)).alloc (Obj.cells #[.int .i64 10,.int .i64 (A:Int),.int .i64 b,.int .i64 c,.int .i64 (N:Int)] 97))=wx
 generalize w.heap.size+1=B2
 generalize w.heap.size=B1
 intro HB;have bx:=HB.out.1;have al:=HB.out.2;have hQ:=HQ.out;have hP:=HP.out;have i12:=al.mv.c12.1;have z12:=al.mv.c12.2;clear c14 k1 k2 k3 k4 HQ HP HB;have p1:=hP.1;have p2:=hP.2;have p3:(s.pc:Int)≤6000:=by omega
 have p4:-10≤q.pc:=by omega
 have p5:q.pc≤6000:=by omega
 have nK:¬ B2=C.K:=bx.n2.1;have nR:¬ B2=C.RB:=bx.n2.2.2.2;have nW:¬ B2=C.WB:=bx.n2.2.1;obtain⟨rA,zA⟩:=al.mv.reg hA;have xA:(A:Int)<16:=by omega
 have ba:=bx.a;have bb:=bx.b;have bc:=bx.c;have bn:=bx.n;obtain⟨sg,so,sc,va,vc,hsv,hcs⟩:=st_len hC.cx hN
 have hL5:(stAt C.x N).length≤5:=by
  unfold stAt;rw[List.getD_eq_getElem?_getD,List.getElem?_eq_getElem hN,Option.getD_some];exact hC.xi.st _ (List.getElem_mem hN)
 have HTk:Hid (∀ w9,Later wx w9→Calls Tryz.prog 81 #[.pointer (some ⟨C.K,0,none⟩),.int .i64 (N8:Int),.int .i64 ((stAt C.x N).length:Int)] w9 (TkM C w9 iv ov A Q)):=fun w9 l9=>by
  have:=(al.kept l9).take hC hs hP.1 hP.2 hmv hev (hd:=(N8:Int)) (n:=(stAt C.x N).length) (A:=A) (by omega) hA hI;rw[hQ];exact this
 obtain⟨L,hL⟩:∃ L,L=(stAt C.x N).length:=⟨_,rfl⟩
 rw[←hL]at HTk hL5
 have HS:Hid (∀ w',OnlyL C wx w'→(∃ s' q',Mv C w' s' q' iv ov)→w'.cell? ⟨B2,4,none⟩=some (.int .i64 (N:Int))∧w'.cell? ⟨C.K,0,none⟩=some (.slice (some ⟨sg,so,none⟩) C.x.structs.length sc)∧w'.cell? ⟨sg,so+N,none⟩=some (.slice va L vc)):=fun w' o m=>by
  obtain⟨s',q',m⟩:=m;refine⟨(bx.only o).n,?_,?_⟩
  ·rw[m.c0.1];exact congrArg some hsv
  ·rw[hL];exact hcs w' m.lat
 have HBx:Hid (∀ w',OnlyL C wx w'→Bx2 C B1 B2 fr 10 (A:Int) b c (N:Int) w'):=fun w' o=>bx.only o;have hS0:=HS.out _ (OnlyL.of_later (Later.drew _)) ⟨_,_,al.mv.kept (Later.drew wx)⟩;obtain⟨hs1,hs2,hs3⟩:=hS0
 have hS0:wx.drew.cell? ⟨B2,4,none⟩=some (.int .i64 (N:Int))∧wx.drew.cell? ⟨C.K,0,none⟩=some (.slice (some ⟨sg,so,none⟩) C.x.structs.length sc)∧wx.drew.cell? ⟨sg,so+N,none⟩=some (.slice va L vc):=⟨hs1,hs2,hs3⟩
 have g1:(N:Int)<(C.x.structs.length:Int):=by omega
 have g2:(8:Int)*(N:Int)=(N8:Int):=by omega
 have hns:=hC.xi.ns;have g3:(N8:Int)≤100:=by omega
 have g4:IntKind.i64.wrap (N8:Int)=(N8:Int):=by rw[IntKind.wrap_i64];omega
 have x3:=hC.d3;clear al bx hQ hP hI hs hsv hcs hL h8 hns hL5;go_wp2_with fail
 refine wp_region_held_drew (S:=fun w'=>w'.cell? ⟨B2,4,none⟩=some (.int .i64 (N:Int))∧w'.cell? ⟨C.K,0,none⟩=some (.slice (some ⟨sg,so,none⟩) C.x.structs.length sc)∧w'.cell? ⟨sg,so+N,none⟩=some (.slice va L vc)) (by kernel_rfl) (by exact hS0) (fun hHeld=>?_);refine tk 0 (.pointer (some ⟨C.K,0,none⟩)) rfl ?_;(try go_simp);refine tk 1 (.pointer (some ⟨B2,4,none⟩)) rfl ?_;(try go_simp);refine tk 2 (.int .i64 ((N:Int))) rfl ?_;(try go_simp);refine tk 3 (.int .i64 ((N8:Int))) rfl ?_;(try go_simp);refine tk 4 (.pointer (some ⟨C.K,0,none⟩)) rfl ?_;(try go_simp);refine tk 5 (.pointer (some ⟨C.K,0,none⟩)) rfl ?_;(try go_simp);refine tk 6 (.pointer (some ⟨C.K,0,none⟩)) rfl ?_;(try go_simp);refine tk 7 (.pointer (some ⟨C.K,0,none⟩)) rfl ?_;(try go_simp);refine tk 8 (.slice (some ⟨sg,so,none⟩) C.x.structs.length sc) rfl ?_;(try go_simp);refine tk 9 (.pointer (some ⟨B2,4,none⟩)) rfl ?_;(try go_simp);refine tk 10 (.int .i64 ((N:Int))) rfl ?_;(try go_simp);refine tk 11 (.pointer (some ⟨sg,so+N,none⟩)) rfl ?_;(try go_simp);refine tk 12 (.slice va L vc) rfl ?_;(try go_simp);refine tk 13 (.int .i64 ((L:Int))) rfl ?_;(try go_simp);refine rd1 14 rfl fun K hK=>?_;refine step_call rfl 81 en_alloc _ _ rfl [.pointer (some ⟨C.K,0,none⟩),.int .i64 (N8:Int),.int .i64 (L:Int)] rfl (fun v w'=>∃ z,v=.int .i64 z∧TkM C wx.drew iv ov A Q (.returned (.int .i64 z)) w') ((HTk.out _ (Later.drew _)).mono (fun e1 w1 hq=>by obtain⟨v,pz,rfl,r1⟩:=hq;exact⟨_,rfl,v,rfl,v,pz,rfl,r1⟩)) ?_;intro u2 w1 hc2;obtain⟨v,rfl,v9,pz,ev,o1,hm1,⟨j12,y12⟩,⟨⟨ub,jA⟩,yA⟩,HE⟩:=hc2
 cases ev
 have o2:=(OnlyL.of_later (Later.drew wx)).trans o1;have hS2:=HS.out w1 o2 hm1;refine hK.out _ _ ?_ (fun hHeld=>?_)
 ·first|assumption|(go_keep;done)|exact hS2
 clear hK K;(try go_simp);refine rd1 15 rfl fun K hK=>?_;go_simp;refine hK.out _ _ ?_ (fun hHeld=>?_)
 ·first|assumption|(go_keep;done)|exact hS2
 clear hK K;(try go_simp);refine wpAnyH_done (by kernel_rfl) ?_ _;have ba1:=(HBx.out w1 o2).a;have hww:IntKind.i64.wrap (pz+1)=wrap64 (pz+1):=by unfold wrap64;exact IntKind.wrap_i64 _
 rw[hww]at HE;have HE2:Hid (∀ w'',Later ((w1.setCell ⟨C.RB,A,none⟩ (.int .i64 v)).setCell ⟨C.K,12,none⟩ (.int .i64 (wrap64 (pz+1)))) w''→Q unitE w''):=HE;clear hww HE HBx o1 o2 HTk i12 z12 hm1 HS rA zA ba;unfold unitE at HE2;go_wp2_with fail
 first|exact HE2.out _ (Later.refl _)|(go_end0;exact HE2.out _ (Later.refl _))
end Go.Proofs.YtjnpncefkigcbaaGreat
