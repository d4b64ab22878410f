import Derived.Test.YtjnpncefkigcbaaGreatIo
set_option maxHeartbeats 100000000
set_option maxRecDepth 100000
namespace Go.Proofs.YtjnpncefkigcbaaGreat
open Go.RowKit Go.Lib Go.Maps
theorem mo12_any {C:Mx}(hC:MxI C) {w:World}{s:Vm}{q:Mq}{iv ov:Value}(h:Al C w s q iv ov) (hpc:q.pc+1=(s.pc:Int)) (hpb:s.pc≤6000) {A:Nat}(hA:A<16) (fr:Int) (v1 v2 v3:Value) (b c n:Int) :
  Calls Tryz.prog 53 #[.pointer (some ⟨C.K,0,none⟩),.agg #[.int .i64 fr,v1,v2,v3],.agg #[.int .i64 12,.int .i64 (A:Int),.int .i64 b,.int .i64 c,.int .i64 n]] w (StM C q.ev (if s.rg A=0 then .fin 3 1 s else .go s)):=by
 have c14:=h.mv.c14.1;obtain⟨k1,k2,k3,k4⟩:=h.mv.lts;have hlx:Later w ((w.alloc (Obj.cells #[.int .i64 fr,v1,v2,v3] 61)).alloc (Obj.cells #[.int .i64 12,.int .i64 (A:Int),.int .i64 b,.int .i64 c,.int .i64 n] 97)):=(later_a _ _).trans (later_a _ _)
 have HB:Hid (Bx2 C w.heap.size (w.heap.size+1) fr 12 (A:Int) b c n ((w.alloc (Obj.cells #[.int .i64 fr,v1,v2,v3] 61)).alloc (Obj.cells #[.int .i64 12,.int .i64 (A:Int),.int .i64 b,.int .i64 c,.int .i64 n] 97))∧Al C ((w.alloc (Obj.cells #[.int .i64 fr,v1,v2,v3] 61)).alloc (Obj.cells #[.int .i64 12,.int .i64 (A:Int),.int .i64 b,.int .i64 c,.int .i64 n] 97)) s q iv ov):=⟨by simpa using bx2_new h.mv 61 97 fr 12 (A:Int) b c n v1 v2 v3,h.kept hlx⟩
 generalize hQ:StM C q.ev (if s.rg A=0 then .fin 3 1 s else .go s)=Q at *
 have HQ:Hid (Q=StM C q.ev (if s.rg A=0 then .fin 3 1 s else .go s)):=hQ.symm
 have HP:Hid (q.pc+1=(s.pc:Int)∧s.pc≤6000):=⟨hpc,hpb⟩
 clear h hpc hpb hlx hQ;go_enter Tryz.func53,Tryz.ntmps53;go_upto_if 21 with fail
 revert HB
 generalize ((w.alloc (Obj.cells #[.int .i64 fr,v1,v2,v3] 61)).alloc (Obj.cells #[.int .i64 12,.int .i64 (A:Int),.int .i64 b,.int .i64 c,.int .i64 n] 97))=wx
 generalize w.heap.size+1=B2
 generalize w.heap.size=B1
 intro HB;have bx:=HB.out.1;have al:=HB.out.2;have hQ:=HQ.out;have hP:=HP.out;have i12:=al.mv.c12.1;have z12:=al.mv.c12.2;clear c14 k1 k2 k3 k4 HQ HP HB;have p1:=hP.1;have p2:=hP.2;have p3:(s.pc:Int)≤6000:=by omega
 have p4:-10≤q.pc:=by omega
 have p5:q.pc≤6000:=by omega
 have nK:¬ B2=C.K:=bx.n2.1;have nR:¬ B2=C.RB:=bx.n2.2.2.2;have nW:¬ B2=C.WB:=bx.n2.2.1;obtain⟨rA,zA⟩:=al.mv.reg hA;have xA:(A:Int)<16:=by omega
 have ba:=bx.a;have bb:=bx.b;have bc:=bx.c;have bn:=bx.n;by_cases hz:s.rg A=0
 ·rw[hz]at rA;have HSp:Hid (∀ w',Later wx w'→Calls Tryz.prog 23 #[.pointer (some ⟨C.K,0,none⟩),.int .i64 3,.int .i64 1] w' (MQ C w' unitE s (q.stop 3 1) iv ov)):=fun w' l=>lstop_any hC (al.mv.kept l) 3 1
  have HZ:Hid (∀ w' w'',Mv C w' s (q.stop 3 1) iv ov→Later (w'.setCell ⟨C.K,12,none⟩ (.int .i64 (s.pc:Int))) w''→Q unitE w''):=fun w' w'' m l=>by
   rw[hQ];exact st_finM (if_pos hz) (FinM.kept ((al.stop m).pcs hC _) l)
  have H12:Hid (∀ w',Mv C w' s (q.stop 3 1) iv ov→w'.cell? ⟨C.K,12,none⟩=some (.int .i64 q.pc)∧w'.frozen? ⟨C.K,12,none⟩=false):=fun w' m=>by
   have e1:(q.stop 3 1).pc=q.pc:=by unfold Mq.stop;split <;> rfl
   have:=m.c12;rw[e1]at this;exact this
  clear al bx hQ hP;go_wp2_with fail
  refine (HSp.out _ (Later.refl _)).mono ?_;rintro n1 w1 ⟨rfl,m1,o1⟩;obtain⟨j12,y12⟩:=H12.out w1 m1;have HZ1:=fun w''=>HZ.out w1 w'' m1;have HZ2:Hid (∀ w'',Later (w1.setCell ⟨C.K,12,none⟩ (.int .i64 (s.pc:Int))) w''→Q unitE w''):=HZ1;clear HZ1 HZ H12 HSp m1 o1;unfold unitE at HZ2 ⊢;go_wp2_with fail
  first|exact HZ2.out _ (Later.refl _)|(go_end0;exact HZ2.out _ (Later.refl _))
 ·have hne:(s.rg A==0)=false:=by simp[hz]
  have HZ:Hid (∀ w'',Later (wx.setCell ⟨C.K,12,none⟩ (.int .i64 (s.pc:Int))) w''→Q unitE w''):=fun w'' l=>by
   rw[hQ];exact al.go1 hC (if_neg hz) rfl (Nat.le_succ _) l
  clear al bx hQ hP;unfold unitE at HZ;go_wp2_with fail
  first|exact HZ.out _ (Later.refl _)|(go_end0;exact HZ.out _ (Later.refl _))
theorem mo14_any {C:Mx}(hC:MxI C) {w:World}{s:Vm}{q:Mq}{iv ov:Value}(h:Al C w s q iv ov) (hpc:q.pc+1=(s.pc:Int)) (hpb:s.pc≤6000) {A:Nat}(hA:A<16) (fr:Int) (v1 v2 v3:Value) (b c n:Int) :
  Calls Tryz.prog 53 #[.pointer (some ⟨C.K,0,none⟩),.agg #[.int .i64 fr,v1,v2,v3],.agg #[.int .i64 14,.int .i64 (A:Int),.int .i64 b,.int .i64 c,.int .i64 n]] w (StM C q.ev (if s.rg A=0 then .fin 3 3 s else .go s)):=by
 have c14:=h.mv.c14.1;obtain⟨k1,k2,k3,k4⟩:=h.mv.lts;have hlx:Later w ((w.alloc (Obj.cells #[.int .i64 fr,v1,v2,v3] 61)).alloc (Obj.cells #[.int .i64 14,.int .i64 (A:Int),.int .i64 b,.int .i64 c,.int .i64 n] 97)):=(later_a _ _).trans (later_a _ _)
 have HB:Hid (Bx2 C w.heap.size (w.heap.size+1) fr 14 (A:Int) b c n ((w.alloc (Obj.cells #[.int .i64 fr,v1,v2,v3] 61)).alloc (Obj.cells #[.int .i64 14,.int .i64 (A:Int),.int .i64 b,.int .i64 c,.int .i64 n] 97))∧Al C ((w.alloc (Obj.cells #[.int .i64 fr,v1,v2,v3] 61)).alloc (Obj.cells #[.int .i64 14,.int .i64 (A:Int),.int .i64 b,.int .i64 c,.int .i64 n] 97)) s q iv ov):=⟨by simpa using bx2_new h.mv 61 97 fr 14 (A:Int) b c n v1 v2 v3,h.kept hlx⟩
 generalize hQ:StM C q.ev (if s.rg A=0 then .fin 3 3 s else .go s)=Q at *
 have HQ:Hid (Q=StM C q.ev (if s.rg A=0 then .fin 3 3 s else .go s)):=hQ.symm
 have HP:Hid (q.pc+1=(s.pc:Int)∧s.pc≤6000):=⟨hpc,hpb⟩
 clear h hpc hpb hlx hQ;go_enter Tryz.func53,Tryz.ntmps53;go_upto_if 21 with fail
 revert HB
 generalize ((w.alloc (Obj.cells #[.int .i64 fr,v1,v2,v3] 61)).alloc (Obj.cells #[.int .i64 14,.int .i64 (A:Int),.int .i64 b,.int .i64 c,.int .i64 n] 97))=wx
 generalize w.heap.size+1=B2
 generalize w.heap.size=B1
 intro HB;have bx:=HB.out.1;have al:=HB.out.2;have hQ:=HQ.out;have hP:=HP.out;have i12:=al.mv.c12.1;have z12:=al.mv.c12.2;clear c14 k1 k2 k3 k4 HQ HP HB;have p1:=hP.1;have p2:=hP.2;have p3:(s.pc:Int)≤6000:=by omega
 have p4:-10≤q.pc:=by omega
 have p5:q.pc≤6000:=by omega
 have nK:¬ B2=C.K:=bx.n2.1;have nR:¬ B2=C.RB:=bx.n2.2.2.2;have nW:¬ B2=C.WB:=bx.n2.2.1;obtain⟨rA,zA⟩:=al.mv.reg hA;have xA:(A:Int)<16:=by omega
 have ba:=bx.a;have bb:=bx.b;have bc:=bx.c;have bn:=bx.n;by_cases hz:s.rg A=0
 ·rw[hz]at rA;have HSp:Hid (∀ w',Later wx w'→Calls Tryz.prog 23 #[.pointer (some ⟨C.K,0,none⟩),.int .i64 3,.int .i64 3] w' (MQ C w' unitE s (q.stop 3 3) iv ov)):=fun w' l=>lstop_any hC (al.mv.kept l) 3 3
  have HZ:Hid (∀ w' w'',Mv C w' s (q.stop 3 3) iv ov→Later (w'.setCell ⟨C.K,12,none⟩ (.int .i64 (s.pc:Int))) w''→Q unitE w''):=fun w' w'' m l=>by
   rw[hQ];exact st_finM (if_pos hz) (FinM.kept ((al.stop m).pcs hC _) l)
  have H12:Hid (∀ w',Mv C w' s (q.stop 3 3) iv ov→w'.cell? ⟨C.K,12,none⟩=some (.int .i64 q.pc)∧w'.frozen? ⟨C.K,12,none⟩=false):=fun w' m=>by
   have e1:(q.stop 3 3).pc=q.pc:=by unfold Mq.stop;split <;> rfl
   have:=m.c12;rw[e1]at this;exact this
  clear al bx hQ hP;go_wp2_with fail
  refine (HSp.out _ (Later.refl _)).mono ?_;rintro n1 w1 ⟨rfl,m1,o1⟩;obtain⟨j12,y12⟩:=H12.out w1 m1;have HZ1:=fun w''=>HZ.out w1 w'' m1;have HZ2:Hid (∀ w'',Later (w1.setCell ⟨C.K,12,none⟩ (.int .i64 (s.pc:Int))) w''→Q unitE w''):=HZ1;clear HZ1 HZ H12 HSp m1 o1;unfold unitE at HZ2 ⊢;go_wp2_with fail
  first|exact HZ2.out _ (Later.refl _)|(go_end0;exact HZ2.out _ (Later.refl _))
 ·have hne:(s.rg A==0)=false:=by simp[hz]
  have HZ:Hid (∀ w'',Later (wx.setCell ⟨C.K,12,none⟩ (.int .i64 (s.pc:Int))) w''→Q unitE w''):=fun w'' l=>by
   rw[hQ];exact al.go1 hC (if_neg hz) rfl (Nat.le_succ _) l
  clear al bx hQ hP;unfold unitE at HZ;go_wp2_with fail
  first|exact HZ.out _ (Later.refl _)|(go_end0;exact HZ.out _ (Later.refl _))
theorem mo15_any {C:Mx}(hC:MxI C) {w:World}{s:Vm}{q:Mq}{iv ov:Value}(h:Al C w s q iv ov) (hpc:q.pc+1=(s.pc:Int)) (hpb:s.pc≤6000) {A:Nat}(hA:A<16) (fr:Int) (v1 v2 v3:Value) (b c n:Int) :
  Calls Tryz.prog 53 #[.pointer (some ⟨C.K,0,none⟩),.agg #[.int .i64 fr,v1,v2,v3],.agg #[.int .i64 15,.int .i64 (A:Int),.int .i64 b,.int .i64 c,.int .i64 n]] w (StM C q.ev (if 0≤s.rg A∧s.rg A≤100 then .go s else .fin 3 4 s)):=by
 have c14:=h.mv.c14.1;obtain⟨k1,k2,k3,k4⟩:=h.mv.lts;have hlx:Later w ((w.alloc (Obj.cells #[.int .i64 fr,v1,v2,v3] 61)).alloc (Obj.cells #[.int .i64 15,.int .i64 (A:Int),.int .i64 b,.int .i64 c,.int .i64 n] 97)):=(later_a _ _).trans (later_a _ _)
 have HB:Hid (Bx2 C w.heap.size (w.heap.size+1) fr 15 (A:Int) b c n ((w.alloc (Obj.cells #[.int .i64 fr,v1,v2,v3] 61)).alloc (Obj.cells #[.int .i64 15,.int .i64 (A:Int),.int .i64 b,.int .i64 c,.int .i64 n] 97))∧Al C ((w.alloc (Obj.cells #[.int .i64 fr,v1,v2,v3] 61)).alloc (Obj.cells #[.int .i64 15,.int .i64 (A:Int),.int .i64 b,.int .i64 c,.int .i64 n] 97)) s q iv ov):=⟨by simpa using bx2_new h.mv 61 97 fr 15 (A:Int) b c n v1 v2 v3,h.kept hlx⟩
 generalize hQ:StM C q.ev (if 0≤s.rg A∧s.rg A≤100 then .go s else .fin 3 4 s)=Q at *
 have HQ:Hid (Q=StM C q.ev (if 0≤s.rg A∧s.rg A≤100 then .go s else .fin 3 4 s)):=hQ.symm
 have HP:Hid (q.pc+1=(s.pc:Int)∧s.pc≤6000):=⟨hpc,hpb⟩
 clear h hpc hpb hlx hQ;go_enter Tryz.func53,Tryz.ntmps53;go_upto_if 21 with fail
 revert HB
 generalize ((w.alloc (Obj.cells #[.int .i64 fr,v1,v2,v3] 61)).alloc (Obj.cells #[.int .i64 15,.int .i64 (A:Int),.int .i64 b,.int .i64 c,.int .i64 n] 97))=wx
 generalize w.heap.size+1=B2
 generalize w.heap.size=B1
 intro HB;have bx:=HB.out.1;have al:=HB.out.2;have hQ:=HQ.out;have hP:=HP.out;have i12:=al.mv.c12.1;have z12:=al.mv.c12.2;clear c14 k1 k2 k3 k4 HQ HP HB;have p1:=hP.1;have p2:=hP.2;have p3:(s.pc:Int)≤6000:=by omega
 have p4:-10≤q.pc:=by omega
 have p5:q.pc≤6000:=by omega
 have nK:¬ B2=C.K:=bx.n2.1;have nR:¬ B2=C.RB:=bx.n2.2.2.2;have nW:¬ B2=C.WB:=bx.n2.2.1;obtain⟨rA,zA⟩:=al.mv.reg hA;have xA:(A:Int)<16:=by omega
 have ba:=bx.a;have bb:=bx.b;have bc:=bx.c;have bn:=bx.n;by_cases h0:0≤s.rg A
 ·have hn0:¬ s.rg A<0:=by omega
  have hd0:decide (s.rg A<0)=false:=decide_eq_false hn0;by_cases h1:s.rg A≤100
  ·have hn1:¬ (100:Int)<s.rg A:=by omega
   have hd1:decide ((100:Int)<s.rg A)=false:=decide_eq_false hn1
   have HZ:Hid (∀ w'',Later (wx.setCell ⟨C.K,12,none⟩ (.int .i64 (s.pc:Int))) w''→Q unitE w''):=fun w'' l=>by
    rw[hQ];exact al.go1 hC (if_pos ⟨h0,h1⟩) rfl (Nat.le_succ _) l
   clear al bx hQ hP;unfold unitE at HZ;go_wp2_with fail
   first|exact HZ.out _ (Later.refl _)|(go_end0;exact HZ.out _ (Later.refl _))
  ·have hn1:(100:Int)<s.rg A:=by omega
   have hd1:decide ((100:Int)<s.rg A)=true:=decide_eq_true hn1;have HSp:Hid (∀ w',Later wx w'→Calls Tryz.prog 23 #[.pointer (some ⟨C.K,0,none⟩),.int .i64 3,.int .i64 4] w' (MQ C w' unitE s (q.stop 3 4) iv ov)):=fun w' l=>lstop_any hC (al.mv.kept l) 3 4
   have HZ:Hid (∀ w' w'',Mv C w' s (q.stop 3 4) iv ov→Later (w'.setCell ⟨C.K,12,none⟩ (.int .i64 (s.pc:Int))) w''→Q unitE w''):=fun w' w'' m l=>by
    rw[hQ];exact st_finM (if_neg (fun k=>h1 k.2)) (FinM.kept ((al.stop m).pcs hC _) l)
   have H12:Hid (∀ w',Mv C w' s (q.stop 3 4) iv ov→w'.cell? ⟨C.K,12,none⟩=some (.int .i64 q.pc)∧w'.frozen? ⟨C.K,12,none⟩=false):=fun w' m=>by
    have e1:(q.stop 3 4).pc=q.pc:=by unfold Mq.stop;split <;> rfl
    have:=m.c12;rw[e1]at this;exact this
   clear al bx hQ hP;go_wp2_with fail
   refine (HSp.out _ (Later.refl _)).mono ?_;rintro n1 w1 ⟨rfl,m1,o1⟩;obtain⟨j12,y12⟩:=H12.out w1 m1;have HZ1:=fun w''=>HZ.out w1 w'' m1;have HZ2:Hid (∀ w'',Later (w1.setCell ⟨C.K,12,none⟩ (.int .i64 (s.pc:Int))) w''→Q unitE w''):=HZ1;clear HZ1 HZ H12 HSp m1 o1;unfold unitE at HZ2 ⊢;go_wp2_with fail
   first|exact HZ2.out _ (Later.refl _)|(go_end0;exact HZ2.out _ (Later.refl _))
 ·have hn0:s.rg A<0:=by omega
  have hd0:decide (s.rg A<0)=true:=decide_eq_true hn0;have HSp:Hid (∀ w',Later wx w'→Calls Tryz.prog 23 #[.pointer (some ⟨C.K,0,none⟩),.int .i64 3,.int .i64 4] w' (MQ C w' unitE s (q.stop 3 4) iv ov)):=fun w' l=>lstop_any hC (al.mv.kept l) 3 4
  have HZ:Hid (∀ w' w'',Mv C w' s (q.stop 3 4) iv ov→Later (w'.setCell ⟨C.K,12,none⟩ (.int .i64 (s.pc:Int))) w''→Q unitE w''):=fun w' w'' m l=>by
   rw[hQ];exact st_finM (if_neg (fun k=>h0 k.1)) (FinM.kept ((al.stop m).pcs hC _) l)
  have H12:Hid (∀ w',Mv C w' s (q.stop 3 4) iv ov→w'.cell? ⟨C.K,12,none⟩=some (.int .i64 q.pc)∧w'.frozen? ⟨C.K,12,none⟩=false):=fun w' m=>by
   have e1:(q.stop 3 4).pc=q.pc:=by unfold Mq.stop;split <;> rfl
   have:=m.c12;rw[e1]at this;exact this
  clear al bx hQ hP;go_wp2_with fail
  refine (HSp.out _ (Later.refl _)).mono ?_;rintro n1 w1 ⟨rfl,m1,o1⟩;obtain⟨j12,y12⟩:=H12.out w1 m1;have HZ1:=fun w''=>HZ.out w1 w'' m1;have HZ2:Hid (∀ w'',Later (w1.setCell ⟨C.K,12,none⟩ (.int .i64 (s.pc:Int))) w''→Q unitE w''):=HZ1;clear HZ1 HZ H12 HSp m1 o1;unfold unitE at HZ2 ⊢;go_wp2_with fail
  first|exact HZ2.out _ (Later.refl _)|(go_end0;exact HZ2.out _ (Later.refl _))
theorem mo25_any {C:Mx}(hC:MxI C) {w:World}{s:Vm}{q:Mq}{iv ov:Value}(h:Al C w s q iv ov) (hpc:q.pc+1=(s.pc:Int)) (hpb:s.pc≤6000) {A:Nat}(hA:A<16) (fr:Int) (v1 v2 v3:Value) (b c n:Int) :
  Calls Tryz.prog 53 #[.pointer (some ⟨C.K,0,none⟩),.agg #[.int .i64 fr,v1,v2,v3],.agg #[.int .i64 25,.int .i64 (A:Int),.int .i64 b,.int .i64 c,.int .i64 n]] w (StM C q.ev (.fin 2 (s.rg A) s)):=by
 have c14:=h.mv.c14.1;obtain⟨k1,k2,k3,k4⟩:=h.mv.lts;have hlx:Later w ((w.alloc (Obj.cells #[.int .i64 fr,v1,v2,v3] 61)).alloc (Obj.cells #[.int .i64 25,.int .i64 (A:Int),.int .i64 b,.int .i64 c,.int .i64 n] 97)):=(later_a _ _).trans (later_a _ _)
 have HB:Hid (Bx2 C w.heap.size (w.heap.size+1) fr 25 (A:Int) b c n ((w.alloc (Obj.cells #[.int .i64 fr,v1,v2,v3] 61)).alloc (Obj.cells #[.int .i64 25,.int .i64 (A:Int),.int .i64 b,.int .i64 c,.int .i64 n] 97))∧Al C ((w.alloc (Obj.cells #[.int .i64 fr,v1,v2,v3] 61)).alloc (Obj.cells #[.int .i64 25,.int .i64 (A:Int),.int .i64 b,.int .i64 c,.int .i64 n] 97)) s q iv ov):=⟨by simpa using bx2_new h.mv 61 97 fr 25 (A:Int) b c n v1 v2 v3,h.kept hlx⟩
 generalize hQ:StM C q.ev (.fin 2 (s.rg A) s)=Q at *
 have HQ:Hid (Q=StM C q.ev (.fin 2 (s.rg A) s)):=hQ.symm
 have HP:Hid (q.pc+1=(s.pc:Int)∧s.pc≤6000):=⟨hpc,hpb⟩
 clear h hpc hpb hlx hQ;go_enter Tryz.func53,Tryz.ntmps53;go_upto_if 21 with fail
 revert HB
 generalize ((w.alloc (Obj.cells #[.int .i64 fr,v1,v2,v3] 61)).alloc (Obj.cells #[.int .i64 25,.int .i64 (A:Int),.int .i64 b,.int .i64 c,.int .i64 n] 97))=wx
 generalize w.heap.size+1=B2
 generalize w.heap.size=B1
 intro HB;have bx:=HB.out.1;have al:=HB.out.2;have hQ:=HQ.out;have hP:=HP.out;have i12:=al.mv.c12.1;have z12:=al.mv.c12.2;clear c14 k1 k2 k3 k4 HQ HP HB;have p1:=hP.1;have p2:=hP.2;have p3:(s.pc:Int)≤6000:=by omega
 have p4:-10≤q.pc:=by omega
 have p5:q.pc≤6000:=by omega
 have nK:¬ B2=C.K:=bx.n2.1;have nR:¬ B2=C.RB:=bx.n2.2.2.2;have nW:¬ B2=C.WB:=bx.n2.2.1;obtain⟨rA,zA⟩:=al.mv.reg hA;have xA:(A:Int)<16:=by omega
 have ba:=bx.a;have bb:=bx.b;have bc:=bx.c;have bn:=bx.n;have HSp:Hid (∀ w',Later wx w'→Calls Tryz.prog 23 #[.pointer (some ⟨C.K,0,none⟩),.int .i64 2,.int .i64 (s.rg A)] w' (MQ C w' unitE s (q.stop 2 (s.rg A)) iv ov)):=fun w' l=>lstop_any hC (al.mv.kept l) 2 (s.rg A)
 have HZ:Hid (∀ w' w'',Mv C w' s (q.stop 2 (s.rg A)) iv ov→Later (w'.setCell ⟨C.K,12,none⟩ (.int .i64 (s.pc:Int))) w''→Q unitE w''):=fun w' w'' m l=>by
  rw[hQ];exact st_finM (rfl) (FinM.kept ((al.stop m).pcs hC _) l)
 have H12:Hid (∀ w',Mv C w' s (q.stop 2 (s.rg A)) iv ov→w'.cell? ⟨C.K,12,none⟩=some (.int .i64 q.pc)∧w'.frozen? ⟨C.K,12,none⟩=false):=fun w' m=>by
  have e1:(q.stop 2 (s.rg A)).pc=q.pc:=by unfold Mq.stop;split <;> rfl
  have:=m.c12;rw[e1]at this;exact this
 clear al bx hQ hP;go_wp2_with fail
 refine (HSp.out _ (Later.refl _)).mono ?_;rintro n1 w1 ⟨rfl,m1,o1⟩;obtain⟨j12,y12⟩:=H12.out w1 m1;have HZ1:=fun w''=>HZ.out w1 w'' m1;have HZ2:Hid (∀ w'',Later (w1.setCell ⟨C.K,12,none⟩ (.int .i64 (s.pc:Int))) w''→Q unitE w''):=HZ1;clear HZ1 HZ H12 HSp m1 o1;unfold unitE at HZ2 ⊢;go_wp2_with fail
 first|exact HZ2.out _ (Later.refl _)|(go_end0;exact HZ2.out _ (Later.refl _))
theorem mo26_any {C:Mx}(hC:MxI C) {w:World}{s:Vm}{q:Mq}{iv ov:Value}(h:Al C w s q iv ov) (hpc:q.pc+1=(s.pc:Int)) (hpb:s.pc≤6000) {N:Nat}(fr:Int) (v1 v2 v3:Value) (a b c:Int) :
  Calls Tryz.prog 53 #[.pointer (some ⟨C.K,0,none⟩),.agg #[.int .i64 fr,v1,v2,v3],.agg #[.int .i64 26,.int .i64 a,.int .i64 b,.int .i64 c,.int .i64 (N:Int)]] w (StM C q.ev (.go { s with pc:=N })):=by
 have c14:=h.mv.c14.1;obtain⟨k1,k2,k3,k4⟩:=h.mv.lts;have hlx:Later w ((w.alloc (Obj.cells #[.int .i64 fr,v1,v2,v3] 61)).alloc (Obj.cells #[.int .i64 26,.int .i64 a,.int .i64 b,.int .i64 c,.int .i64 (N:Int)] 97)):=(later_a _ _).trans (later_a _ _)
 have HB:Hid (Bx2 C w.heap.size (w.heap.size+1) fr 26 a b c (N:Int) ((w.alloc (Obj.cells #[.int .i64 fr,v1,v2,v3] 61)).alloc (Obj.cells #[.int .i64 26,.int .i64 a,.int .i64 b,.int .i64 c,.int .i64 (N:Int)] 97))∧Al C ((w.alloc (Obj.cells #[.int .i64 fr,v1,v2,v3] 61)).alloc (Obj.cells #[.int .i64 26,.int .i64 a,.int .i64 b,.int .i64 c,.int .i64 (N:Int)] 97)) s q iv ov):=⟨by simpa using bx2_new h.mv 61 97 fr 26 a b c (N:Int) v1 v2 v3,h.kept hlx⟩
 generalize hQ:StM C q.ev (.go { s with pc:=N })=Q at *
 have HQ:Hid (Q=StM C q.ev (.go { s with pc:=N })):=hQ.symm
 have HP:Hid (q.pc+1=(s.pc:Int)∧s.pc≤6000):=⟨hpc,hpb⟩
 clear h hpc hpb hlx hQ;go_enter Tryz.func53,Tryz.ntmps53;go_upto_if 21 with fail
 revert HB
 generalize ((w.alloc (Obj.cells #[.int .i64 fr,v1,v2,v3] 61)).alloc (Obj.cells #[.int .i64 26,.int .i64 a,.int .i64 b,.int .i64 c,.int .i64 (N:Int)] 97))=wx
 generalize w.heap.size+1=B2
 generalize w.heap.size=B1
 intro HB;have bx:=HB.out.1;have al:=HB.out.2;have hQ:=HQ.out;have hP:=HP.out;have i12:=al.mv.c12.1;have z12:=al.mv.c12.2;clear c14 k1 k2 k3 k4 HQ HP HB;have p1:=hP.1;have p2:=hP.2;have p3:(s.pc:Int)≤6000:=by omega
 have p4:-10≤q.pc:=by omega
 have p5:q.pc≤6000:=by omega
 have nK:¬ B2=C.K:=bx.n2.1;have nR:¬ B2=C.RB:=bx.n2.2.2.2;have nW:¬ B2=C.WB:=bx.n2.2.1;have ba:=bx.a;have bb:=bx.b;have bc:=bx.c;have bn:=bx.n
 have HZ:Hid (∀ w'',Later (wx.setCell ⟨C.K,12,none⟩ (.int .i64 (N:Int))) w''→Q unitE w''):=fun w'' l=>by
  rw[hQ];exact st_goM (rfl) (q':={ q with pc:=(N:Int) }) ⟨(al.mv.pcj hC N (N:Int)).kept l,al.ag,al.iv.alike rfl,al.en,al.cd,al.orc⟩ rfl (Nat.le_succ _)
 clear al bx hQ hP;unfold unitE at HZ;go_wp2_with fail
 first|exact HZ.out _ (Later.refl _)|(go_end0;exact HZ.out _ (Later.refl _))
theorem mo27_any {C:Mx}(hC:MxI C) {w:World}{s:Vm}{q:Mq}{iv ov:Value}(h:Al C w s q iv ov) (hpc:q.pc+1=(s.pc:Int)) (hpb:s.pc≤6000) {A N:Nat}(hA:A<16) (fr:Int) (v1 v2 v3:Value) (b c:Int) :
  Calls Tryz.prog 53 #[.pointer (some ⟨C.K,0,none⟩),.agg #[.int .i64 fr,v1,v2,v3],.agg #[.int .i64 27,.int .i64 (A:Int),.int .i64 b,.int .i64 c,.int .i64 (N:Int)]] w (StM C q.ev (if s.rg A=0 then .go { s with pc:=N } else .go s)):=by
 have c14:=h.mv.c14.1;obtain⟨k1,k2,k3,k4⟩:=h.mv.lts;have hlx:Later w ((w.alloc (Obj.cells #[.int .i64 fr,v1,v2,v3] 61)).alloc (Obj.cells #[.int .i64 27,.int .i64 (A:Int),.int .i64 b,.int .i64 c,.int .i64 (N:Int)] 97)):=(later_a _ _).trans (later_a _ _)
 have HB:Hid (Bx2 C w.heap.size (w.heap.size+1) fr 27 (A:Int) b c (N:Int) ((w.alloc (Obj.cells #[.int .i64 fr,v1,v2,v3] 61)).alloc (Obj.cells #[.int .i64 27,.int .i64 (A:Int),.int .i64 b,.int .i64 c,.int .i64 (N:Int)] 97))∧Al C ((w.alloc (Obj.cells #[.int .i64 fr,v1,v2,v3] 61)).alloc (Obj.cells #[.int .i64 27,.int .i64 (A:Int),.int .i64 b,.int .i64 c,.int .i64 (N:Int)] 97)) s q iv ov):=⟨by simpa using bx2_new h.mv 61 97 fr 27 (A:Int) b c (N:Int) v1 v2 v3,h.kept hlx⟩
 generalize hQ:StM C q.ev (if s.rg A=0 then .go { s with pc:=N } else .go s)=Q at *
 have HQ:Hid (Q=StM C q.ev (if s.rg A=0 then .go { s with pc:=N } else .go s)):=hQ.symm
 have HP:Hid (q.pc+1=(s.pc:Int)∧s.pc≤6000):=⟨hpc,hpb⟩
 clear h hpc hpb hlx hQ;go_enter Tryz.func53,Tryz.ntmps53;go_upto_if 21 with fail
 revert HB
 generalize ((w.alloc (Obj.cells #[.int .i64 fr,v1,v2,v3] 61)).alloc (Obj.cells #[.int .i64 27,.int .i64 (A:Int),.int .i64 b,.int .i64 c,.int .i64 (N:Int)] 97))=wx
 generalize w.heap.size+1=B2
 generalize w.heap.size=B1
 intro HB;have bx:=HB.out.1;have al:=HB.out.2;have hQ:=HQ.out;have hP:=HP.out;have i12:=al.mv.c12.1;have z12:=al.mv.c12.2;clear c14 k1 k2 k3 k4 HQ HP HB;have p1:=hP.1;have p2:=hP.2;have p3:(s.pc:Int)≤6000:=by omega
 have p4:-10≤q.pc:=by omega
 have p5:q.pc≤6000:=by omega
 have nK:¬ B2=C.K:=bx.n2.1;have nR:¬ B2=C.RB:=bx.n2.2.2.2;have nW:¬ B2=C.WB:=bx.n2.2.1;obtain⟨rA,zA⟩:=al.mv.reg hA;have xA:(A:Int)<16:=by omega
 have ba:=bx.a;have bb:=bx.b;have bc:=bx.c;have bn:=bx.n;by_cases hz:s.rg A=0
 ·rw[hz]at rA
  have HZ:Hid (∀ w'',Later (wx.setCell ⟨C.K,12,none⟩ (.int .i64 (N:Int))) w''→Q unitE w''):=fun w'' l=>by
   rw[hQ];exact st_goM (if_pos hz) (q':={ q with pc:=(N:Int) }) ⟨(al.mv.pcj hC N (N:Int)).kept l,al.ag,al.iv.alike rfl,al.en,al.cd,al.orc⟩ rfl (Nat.le_succ _)
  clear al bx hQ hP;unfold unitE at HZ;go_wp2_with fail
  first|exact HZ.out _ (Later.refl _)|(go_end0;exact HZ.out _ (Later.refl _))
 ·have hne:(s.rg A==0)=false:=by simp[hz]
  have HZ:Hid (∀ w'',Later (wx.setCell ⟨C.K,12,none⟩ (.int .i64 (s.pc:Int))) w''→Q unitE w''):=fun w'' l=>by
   rw[hQ];exact al.go1 hC (if_neg hz) rfl (Nat.le_succ _) l
  clear al bx hQ hP;unfold unitE at HZ;go_wp2_with fail
  first|exact HZ.out _ (Later.refl _)|(go_end0;exact HZ.out _ (Later.refl _))
theorem mo23_any {C:Mx}(hC:MxI C) {w:World}{s:Vm}{q:Mq}{iv ov:Value}(h:Al C w s q iv ov) (hpc:q.pc+1=(s.pc:Int)) (hpb:s.pc≤6000) {N:Nat}(hn:N<C.x.codes.length) (hev:q.ev≤1000000) (hcp:s.copies≤999990) (hI:∀ t,s.call C.x N=.go t→Iv C.x C.H t) (fr:Int) (v1 v2 v3:Value) (a b c:Int) :
  Calls Tryz.prog 53 #[.pointer (some ⟨C.K,0,none⟩),.agg #[.int .i64 fr,v1,v2,v3],.agg #[.int .i64 23,.int .i64 a,.int .i64 b,.int .i64 c,.int .i64 (N:Int)]] w (StM C q.ev (s.call C.x N)):=by
 have c14:=h.mv.c14.1;obtain⟨k1,k2,k3,k4⟩:=h.mv.lts;have hlx:Later w ((w.alloc (Obj.cells #[.int .i64 fr,v1,v2,v3] 61)).alloc (Obj.cells #[.int .i64 23,.int .i64 a,.int .i64 b,.int .i64 c,.int .i64 (N:Int)] 97)):=(later_a _ _).trans (later_a _ _)
 have HB:Hid (Bx2 C w.heap.size (w.heap.size+1) fr 23 a b c (N:Int) ((w.alloc (Obj.cells #[.int .i64 fr,v1,v2,v3] 61)).alloc (Obj.cells #[.int .i64 23,.int .i64 a,.int .i64 b,.int .i64 c,.int .i64 (N:Int)] 97))∧Al C ((w.alloc (Obj.cells #[.int .i64 fr,v1,v2,v3] 61)).alloc (Obj.cells #[.int .i64 23,.int .i64 a,.int .i64 b,.int .i64 c,.int .i64 (N:Int)] 97)) s q iv ov):=⟨by simpa using bx2_new h.mv 61 97 fr 23 a b c (N:Int) v1 v2 v3,h.kept hlx⟩
 generalize hQ:StM C q.ev (s.call C.x N)=Q at *
 have HQ:Hid (Q=StM C q.ev (s.call C.x N)):=hQ.symm
 have HP:Hid (q.pc+1=(s.pc:Int)∧s.pc≤6000):=⟨hpc,hpb⟩
 clear h hpc hpb hlx hQ;go_enter Tryz.func53,Tryz.ntmps53;go_upto_if 21 with fail
 revert HB
 generalize ((w.alloc (Obj.cells #[.int .i64 fr,v1,v2,v3] 61)).alloc (Obj.cells #[.int .i64 23,.int .i64 a,.int .i64 b,.int .i64 c,.int .i64 (N:Int)] 97))=wx
 generalize w.heap.size+1=B2
 generalize w.heap.size=B1
 intro HB;have bx:=HB.out.1;have al:=HB.out.2;have hQ:=HQ.out;have hP:=HP.out;have i12:=al.mv.c12.1;have z12:=al.mv.c12.2;clear c14 k1 k2 k3 k4 HQ HP HB;have p1:=hP.1;have p2:=hP.2;have p3:(s.pc:Int)≤6000:=by omega
 have p4:-10≤q.pc:=by omega
 have p5:q.pc≤6000:=by omega
 have nK:¬ B2=C.K:=bx.n2.1;have nR:¬ B2=C.RB:=bx.n2.2.2.2;have nW:¬ B2=C.WB:=bx.n2.2.1;have ba:=bx.a;have bb:=bx.b;have bc:=bx.c;have bn:=bx.n;have HCl:Hid (Calls Tryz.prog 83 #[.pointer (some ⟨C.K,0,none⟩),.int .i64 (N:Int)] wx (StM C q.ev (s.call C.x N))):=lcall_any hC al (by omega) (by omega) hev hcp hn hI;rw[←hQ]at HCl;have HU:Hid (∀ n w',Q n w'→n=unitE):=fun n w' hq=>by rw[hQ]at hq;exact hq.1
 clear al bx hQ hP hI;go_wp2_with fail
 refine HCl.out.mono ?_;intro n1 w1 hq1;have e1:=HU.out n1 w1 hq1;rw[e1]at hq1 ⊢;clear e1 HU HCl;unfold unitE at hq1 ⊢;go_wp2_with fail
 first|exact hq1|(go_end0;exact hq1)
theorem mo24_any {C:Mx}(hC:MxI C) {w:World}{s:Vm}{q:Mq}{iv ov:Value}(h:Al C w s q iv ov) (hpc:q.pc+1=(s.pc:Int)) (hpb:s.pc≤6000) {A:Nat}(hA:A<16) (fr:Int) (v1 v2 v3:Value) (b c n:Int) (hn:n=0∨n=1) :
  Calls Tryz.prog 53 #[.pointer (some ⟨C.K,0,none⟩),.agg #[.int .i64 fr,v1,v2,v3],.agg #[.int .i64 24,.int .i64 (A:Int),.int .i64 b,.int .i64 c,.int .i64 n]] w (StM C q.ev (s.ret ⟨24,(A:Int),b,c,n⟩)):=by
 have c14:=h.mv.c14.1;obtain⟨k1,k2,k3,k4⟩:=h.mv.lts;have hlx:Later w ((w.alloc (Obj.cells #[.int .i64 fr,v1,v2,v3] 61)).alloc (Obj.cells #[.int .i64 24,.int .i64 (A:Int),.int .i64 b,.int .i64 c,.int .i64 n] 97)):=(later_a _ _).trans (later_a _ _)
 have HB:Hid (Bx2 C w.heap.size (w.heap.size+1) fr 24 (A:Int) b c n ((w.alloc (Obj.cells #[.int .i64 fr,v1,v2,v3] 61)).alloc (Obj.cells #[.int .i64 24,.int .i64 (A:Int),.int .i64 b,.int .i64 c,.int .i64 n] 97))∧Al C ((w.alloc (Obj.cells #[.int .i64 fr,v1,v2,v3] 61)).alloc (Obj.cells #[.int .i64 24,.int .i64 (A:Int),.int .i64 b,.int .i64 c,.int .i64 n] 97)) s q iv ov):=⟨by simpa using bx2_new h.mv 61 97 fr 24 (A:Int) b c n v1 v2 v3,h.kept hlx⟩
 generalize hQ:StM C q.ev (s.ret ⟨24,(A:Int),b,c,n⟩)=Q at *
 have HQ:Hid (Q=StM C q.ev (s.ret ⟨24,(A:Int),b,c,n⟩)):=hQ.symm
 have HP:Hid (q.pc+1=(s.pc:Int)∧s.pc≤6000):=⟨hpc,hpb⟩
 clear h hpc hpb hlx hQ;go_enter Tryz.func53,Tryz.ntmps53;go_upto_if 21 with fail
 revert HB
 generalize ((w.alloc (Obj.cells #[.int .i64 fr,v1,v2,v3] 61)).alloc (Obj.cells #[.int .i64 24,.int .i64 (A:Int),.int .i64 b,.int .i64 c,.int .i64 n] 97))=wx
 generalize w.heap.size+1=B2
 generalize w.heap.size=B1
 intro HB;have bx:=HB.out.1;have al:=HB.out.2;have hQ:=HQ.out;have hP:=HP.out;have i12:=al.mv.c12.1;have z12:=al.mv.c12.2;clear c14 k1 k2 k3 k4 HQ HP HB;have p1:=hP.1;have p2:=hP.2;have p3:(s.pc:Int)≤6000:=by omega
 have p4:-10≤q.pc:=by omega
 have p5:q.pc≤6000:=by omega
 have nK:¬ B2=C.K:=bx.n2.1;have nR:¬ B2=C.RB:=bx.n2.2.2.2;have nW:¬ B2=C.WB:=bx.n2.2.1;obtain⟨rA,zA⟩:=al.mv.reg hA;have xA:(A:Int)<16:=by omega
 have ba:=bx.a;have bb:=bx.b;have bc:=bx.c;have bn:=bx.n;have HCl:Hid (Calls Tryz.prog 84 #[.pointer (some ⟨C.K,0,none⟩),.agg #[.int .i64 24,.int .i64 (A:Int),.int .i64 b,.int .i64 c,.int .i64 n]] wx (StM C q.ev (s.ret ⟨24,(A:Int),b,c,n⟩))):=lret_any hC al hA 24 b c n hn;rw[←hQ]at HCl;have HU:Hid (∀ n w',Q n w'→n=unitE):=fun n w' hq=>by rw[hQ]at hq;exact hq.1
 have bo:=bx.o;clear al bx hQ hP hn;go_wp2_with fail
 refine HCl.out.mono ?_;intro n1 w1 hq1;have e1:=HU.out n1 w1 hq1;rw[e1]at hq1 ⊢;clear e1 HU HCl;unfold unitE at hq1 ⊢;go_wp2_with fail
 first|exact hq1|(go_end0;exact hq1)
end Go.Proofs.YtjnpncefkigcbaaGreat
