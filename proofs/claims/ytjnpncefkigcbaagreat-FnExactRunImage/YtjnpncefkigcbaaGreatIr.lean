import Derived.Test.YtjnpncefkigcbaaGreatIo
set_option maxHeartbeats 100000000
set_option maxRecDepth 100000
namespace Go.Proofs.YtjnpncefkigcbaaGreat
open Go.RowKit Go.Lib Go.Maps
def LoM (C:Mx) (wx:World) (s:Vm) (q:Mq) (iv ov:Value) (o:Option Nat) (z:Int) (w':World):Prop :=
 (o=none∧z=-1∧Mv C w' s (q.stop 7 0) iv ov∧OnlyL C wx w')∨(∃ a:Nat,o=some a∧z=(a:Int)∧Later wx w')
theorem lobj_m {C:Mx}(hC:MxI C) {wx w9:World}{s:Vm}{q:Mq}{iv ov:Value}(al:Al C wx s q iv ov) (l:Later wx w9) {z k:Int}{lst:Bool}{o:Option Nat}(ho:objO C.x C.H s z k lst=Option.map (fun a:Nat=>(a:Int)) o) :
  Calls Tryz.prog 82 #[.pointer (some ⟨C.K,0,none⟩),.int .i64 z,.int .i64 k,.bool lst] w9 (fun e w'=>∃ v,e=.returned v∧∃ y,v=.int .i64 y∧LoM C wx s q iv ov o y w'):=by
 refine (lobj_any hC (al.kept l) z k lst).mono (fun e w' hq=>?_);rw[ho]at hq
 cases o with
 | none =>
  obtain⟨rfl,m,o1⟩:=hq;exact⟨_,rfl,_,rfl,.inl ⟨rfl,rfl,m,(OnlyL.of_later l).trans o1⟩⟩
 | some a =>
  obtain⟨rfl,l1⟩:=hq;exact⟨_,rfl,_,rfl,.inr ⟨a,rfl,rfl,l.trans l1⟩⟩
theorem LoM.mv {C:Mx}{wx:World}{s:Vm}{q:Mq}{iv ov:Value}(al:Al C wx s q iv ov) {o:Option Nat}{z:Int}{w':World}(h:LoM C wx s q iv ov o z w'):OnlyL C wx w'∧∃ q',Mv C w' s q' iv ov:=by
 rcases h with ⟨_,_,m,o⟩|⟨a,_,_,l⟩
 ·exact⟨o,_,m⟩
 ·exact⟨OnlyL.of_later l,_,al.mv.kept l⟩
theorem Al.place {C:Mx}(hC:MxI C) {w:World}{s:Vm}{q:Mq}{iv ov:Value}(h:Al C w s q iv ov) {z:Int}{a k:Nat}(ho:s.obj C.H z=true) (ea:a=z.toNat+1+k) (hk:k<szW C.x (s.W z.toNat)):a<C.N∧q.W a=s.W a∧∀ v,Iv C.x C.H { s with W:=fset s.W a v }:=by
 obtain⟨h12,hfr,_,hI⟩:=h.iv.obj hC.xi ho;have hfe:=h.iv.fe;have hu:=h.iv.u;have hN:=hC.hN
 have hob:(s.used:Int)≤z:=by
  unfold Vm.obj at ho;simp only[Bool.and_eq_true,decide_eq_true_eq]at ho;exact ho.1
 subst ea;exact⟨by omega,h.ag _ (.inr ⟨by omega,by omega⟩),hI k hk⟩
theorem mo16_any {C:Mx}(hC:MxI C) {w:World}{s:Vm}{q:Mq}{iv ov:Value}(h:Al C w s q iv ov) (hpc:q.pc+1=(s.pc:Int)) (hpb:s.pc≤6000) {A B N:Nat}(hA:A<16) (hB:B<16) (r:St) (h0:s.fld C.x C.H (s.rg B) (N:Int)=none→r=.fin 7 0 s) (h1:∀ a,s.fld C.x C.H (s.rg B) (N:Int)=some a→r=.go (s.set (A:Int) (s.W a))) (fr:Int) (v1 v2 v3:Value) (c:Int) :
  Calls Tryz.prog 53 #[.pointer (some ⟨C.K,0,none⟩),.agg #[.int .i64 fr,v1,v2,v3],.agg #[.int .i64 16,.int .i64 (A:Int),.int .i64 (B:Int),.int .i64 c,.int .i64 (N:Int)]] w (StM C q.ev (r)):=by
 have c14:=h.mv.c14.1;obtain⟨k1,k2,k3,k4⟩:=h.mv.lts;have hlx:Later w ((w.alloc (Obj.cells #[.int .i64 fr,v1,v2,v3] 61)).alloc (Obj.cells #[.int .i64 16,.int .i64 (A:Int),.int .i64 (B:Int),.int .i64 c,.int .i64 (N:Int)] 97)):=(later_a _ _).trans (later_a _ _)
 have HB:Hid (Bx2 C w.heap.size (w.heap.size+1) fr 16 (A:Int) (B:Int) c (N:Int) ((w.alloc (Obj.cells #[.int .i64 fr,v1,v2,v3] 61)).alloc (Obj.cells #[.int .i64 16,.int .i64 (A:Int),.int .i64 (B:Int),.int .i64 c,.int .i64 (N:Int)] 97))∧Al C ((w.alloc (Obj.cells #[.int .i64 fr,v1,v2,v3] 61)).alloc (Obj.cells #[.int .i64 16,.int .i64 (A:Int),.int .i64 (B:Int),.int .i64 c,.int .i64 (N:Int)] 97)) s q iv ov):=⟨by simpa using bx2_new h.mv 61 97 fr 16 (A:Int) (B:Int) c (N:Int) v1 v2 v3,h.kept hlx⟩
 generalize hQ:StM C q.ev (r)=Q at *
 have HQ:Hid (Q=StM C q.ev (r)):=hQ.symm
 have HP:Hid (q.pc+1=(s.pc:Int)∧s.pc≤6000):=⟨hpc,hpb⟩
 clear h hpc hpb hlx hQ;go_enter Tryz.func53,Tryz.ntmps53;go_upto_if 21 with fail
 revert HB
 generalize ((w.alloc (Obj.cells #[.int .i64 fr,v1,v2,v3] 61)).alloc (Obj.cells #[.int .i64 16,.int .i64 (A:Int),.int .i64 (B:Int),.int .i64 c,.int .i64 (N:Int)] 97))=wx
 generalize w.heap.size+1=B2
 generalize w.heap.size=B1
 intro HB;have bx:=HB.out.1;have al:=HB.out.2;have hQ:=HQ.out;have hP:=HP.out;have i12:=al.mv.c12.1;have z12:=al.mv.c12.2;clear c14 k1 k2 k3 k4 HQ HP HB;have p1:=hP.1;have p2:=hP.2;have p3:(s.pc:Int)≤6000:=by omega
 have p4:-10≤q.pc:=by omega
 have p5:q.pc≤6000:=by omega
 have nK:¬ B2=C.K:=bx.n2.1;have nR:¬ B2=C.RB:=bx.n2.2.2.2;have nW:¬ B2=C.WB:=bx.n2.2.1;obtain⟨rA,zA⟩:=al.mv.reg hA;have xA:(A:Int)<16:=by omega
 obtain⟨rB,zB⟩:=al.mv.reg hB;have xB:(B:Int)<16:=by omega
 have ba:=bx.a;have bb:=bx.b;have bc:=bx.c;have bn:=bx.n;have HL:Hid (∀ w9,Later wx w9→Calls Tryz.prog 82 #[.pointer (some ⟨C.K,0,none⟩),.int .i64 (s.rg B),.int .i64 (N:Int),.bool false] w9 (fun e w'=>∃ v,e=.returned v∧∃ y,v=.int .i64 y∧LoM C wx s q iv ov (s.fld C.x C.H (s.rg B) (N:Int)) y w')):=fun w9 l9=>lobj_m hC al l9 (fld_objO (by omega))
 have HS:Hid (∀ w',OnlyL C wx w'→(∃ q',Mv C w' s q' iv ov)→w'.cell? ⟨B2,2,none⟩=some (.int .i64 (B:Int))∧w'.cell? ⟨C.RB,B,none⟩=some (.int .i64 (s.rg B))∧w'.cell? ⟨B2,4,none⟩=some (.int .i64 (N:Int))):=fun w' o m=>by
  obtain⟨q',m⟩:=m;exact⟨(bx.only o).b,(m.reg hB).1,(bx.only o).n⟩
 have HM:Hid (∀ y w',LoM C wx s q iv ov (s.fld C.x C.H (s.rg B) (N:Int)) y w'→OnlyL C wx w'∧∃ q',Mv C w' s q' iv ov):=fun y w' h=>h.mv al
 have HZn:Hid (s.fld C.x C.H (s.rg B) (N:Int)=none→∀ w' w'',Mv C w' s (q.stop 7 0) iv ov→Later (w'.setCell ⟨C.K,12,none⟩ (.int .i64 (s.pc:Int))) w''→Q unitE w''):=fun e w' w'' m l=>by
  rw[hQ];exact st_finM (h0 e) (((al.stop m).pcs hC _).kept l)
 have H12:Hid (∀ w',Mv C w' s (q.stop 7 0) iv ov→w'.cell? ⟨C.K,12,none⟩=some (.int .i64 q.pc)∧w'.frozen? ⟨C.K,12,none⟩=false):=fun w' m=>by
  have:=m.c12;rw[stop_pc]at this;exact this
 have HPl:Hid (∀ a,s.fld C.x C.H (s.rg B) (N:Int)=some a→a<C.N∧q.W a=s.W a∧∀ v,Iv C.x C.H { s with W:=fset s.W a v }):=fun a e=>by
  obtain⟨k1,k2,k3⟩:=Vm.fld_ok (by omega) e;exact al.place hC k1 k2 k3
 have HZs:Hid (∀ a,s.fld C.x C.H (s.rg B) (N:Int)=some a→∀ w' w'',Later wx w'→Later ((w'.setCell ⟨C.RB,A,none⟩ (.int .i64 (s.W a))).setCell ⟨C.K,12,none⟩ (.int .i64 (s.pc:Int))) w''→Q unitE w''):=fun a e w' w'' l l2=>by
  rw[hQ];exact ((al.kept l).reg1 hC hA (s.W a)).go1 hC (h1 a e) rfl (Nat.le_succ _) l2
 have HF:Hid (∀ a,s.fld C.x C.H (s.rg B) (N:Int)=some a→∀ w',Later wx w'→w'.cell? ⟨C.K,3,none⟩=some (.slice (some ⟨C.WB,0,none⟩) C.N C.N)∧(w'.cell? ⟨C.WB,a,none⟩=some (.int .i64 (s.W a))∧w'.frozen? ⟨C.WB,a,none⟩=false)∧(w'.cell? ⟨C.K,12,none⟩=some (.int .i64 q.pc)∧w'.frozen? ⟨C.K,12,none⟩=false)∧(w'.cell? ⟨C.RB,A,none⟩=some (.int .i64 (s.rg A))∧w'.frozen? ⟨C.RB,A,none⟩=false)∧w'.cell? ⟨B2,1,none⟩=some (.int .i64 (A:Int))∧(a:Int)<(C.N:Int)):=fun a e w' l=>by
  obtain⟨k1,k2,_⟩:=HPl.out a e;have m:=al.mv.kept l;have hw:=m.word k1;rw[k2]at hw;exact⟨m.c3.1,hw,m.c12,m.reg hA,(bx.kept l).a,by omega⟩
 have hS0:=HS.out _ (OnlyL.of_later (Later.drew wx)) ⟨_,al.mv.kept (Later.drew wx)⟩;have x1:=hC.d1;have x3:=hC.d3;have x5:=hC.d5;clear al bx hQ hP h0 h1;go_wp2_with fail
 refine wp_region_held_drew (S:=fun w'=>w'.cell? ⟨B2,2,none⟩=some (.int .i64 (B:Int))∧w'.cell? ⟨C.RB,B,none⟩=some (.int .i64 (s.rg B))∧w'.cell? ⟨B2,4,none⟩=some (.int .i64 (N:Int))) (by kernel_rfl) (by exact hS0) (fun hHeld=>?_);refine tk 0 (.pointer (some ⟨C.K,0,none⟩)) rfl ?_;(try go_simp);refine tk 1 (.slice (some ⟨C.RB,0,none⟩) 16 16) rfl ?_;(try go_simp);refine tk 2 (.pointer (some ⟨B2,2,none⟩)) rfl ?_;(try go_simp);refine tk 3 (.int .i64 ((B:Int))) rfl ?_;(try go_simp);refine tk 4 (.pointer (some ⟨C.RB,B,none⟩)) rfl ?_;(try go_simp);refine tk 5 (.int .i64 (s.rg B)) rfl ?_;(try go_simp);refine tk 6 (.pointer (some ⟨B2,4,none⟩)) rfl ?_;(try go_simp);refine tk 7 (.int .i64 ((N:Int))) rfl ?_;(try go_simp);refine rd1 8 rfl fun K hK=>?_;refine step_call rfl 82 en_obj _ _ rfl [.pointer (some ⟨C.K,0,none⟩),.int .i64 (s.rg B),.int .i64 (N:Int),.bool false] rfl (fun v w'=>∃ y,v=.int .i64 y∧LoM C wx s q iv ov (s.fld C.x C.H (s.rg B) (N:Int)) y w') (HL.out _ (Later.drew _)) ?_;intro u2 w1 hc2;obtain⟨y,rfl,hlo⟩:=hc2;have hS2:=HS.out w1 (HM.out y w1 hlo).1 (HM.out y w1 hlo).2;refine hK.out _ _ ?_ (fun hHeld=>?_)
 ·first|assumption|(go_keep;done)|exact hS2
 clear hK K;(try go_simp);refine rd1 9 rfl fun K hK=>?_;go_simp;refine hK.out _ _ ?_ (fun hHeld=>?_)
 ·first|assumption|(go_keep;done)|exact hS2
 clear hK K;(try go_simp);refine wpAnyH_done (by kernel_rfl) ?_ _;clear hS0 hS2 HL HS HM rA zA rB zB ba bb bc bn i12 z12;rcases hlo with ⟨ho,rfl,m1,o1⟩|⟨a,ho,rfl,l1⟩
 ·obtain⟨j12,y12⟩:=H12.out w1 m1;have HZ2:Hid (∀ w'',Later (w1.setCell ⟨C.K,12,none⟩ (.int .i64 (s.pc:Int))) w''→Q unitE w''):=fun w''=>HZn.out ho w1 w'' m1;clear HZn HZs HPl HF H12 m1 o1 ho;unfold unitE at HZ2;go_wp2_with fail
  first|exact HZ2.out _ (Later.refl _)|(go_end0;exact HZ2.out _ (Later.refl _))
 ·obtain⟨d3,⟨dw,zw⟩,⟨j12,y12⟩,⟨rR,zR⟩,bR,g1⟩:=HF.out a ho w1 l1;have HZ2:Hid (∀ w'',Later ((w1.setCell ⟨C.RB,A,none⟩ (.int .i64 (s.W a))).setCell ⟨C.K,12,none⟩ (.int .i64 (s.pc:Int))) w''→Q unitE w''):=fun w''=>HZs.out a ho w1 w'' l1;have g2:(0:Int)≤(a:Int):=by omega
  clear HZn HZs HPl HF H12 ho
  generalize s.W a=V at *
  unfold unitE at HZ2;go_wp2_with fail
  go_region
  go_wp2_with fail
  first|exact HZ2.out _ (by first|exact Later.refl _|exact Later.drew _|exact (Later.drew _).trans (Later.drew _)|exact Later.drewN' _ _)|(go_end0;exact HZ2.out _ (by first|exact Later.refl _|exact Later.drew _|exact (Later.drew _).trans (Later.drew _)|exact Later.drewN' _ _))
theorem mo17_any {C:Mx}(hC:MxI C) {w:World}{s:Vm}{q:Mq}{iv ov:Value}(h:Al C w s q iv ov) (hpc:q.pc+1=(s.pc:Int)) (hpb:s.pc≤6000) {A B N:Nat}(hA:A<16) (hB:B<16) (r:St) (h0:s.fld C.x C.H (s.rg A) (N:Int)=none→r=.fin 7 0 s) (h1:∀ a,s.fld C.x C.H (s.rg A) (N:Int)=some a→r=.go { s with W:=fset s.W a (s.rg B) }) (fr:Int) (v1 v2 v3:Value) (c:Int) :
  Calls Tryz.prog 53 #[.pointer (some ⟨C.K,0,none⟩),.agg #[.int .i64 fr,v1,v2,v3],.agg #[.int .i64 17,.int .i64 (A:Int),.int .i64 (B:Int),.int .i64 c,.int .i64 (N:Int)]] w (StM C q.ev (r)):=by
 have c14:=h.mv.c14.1;obtain⟨k1,k2,k3,k4⟩:=h.mv.lts;have hlx:Later w ((w.alloc (Obj.cells #[.int .i64 fr,v1,v2,v3] 61)).alloc (Obj.cells #[.int .i64 17,.int .i64 (A:Int),.int .i64 (B:Int),.int .i64 c,.int .i64 (N:Int)] 97)):=(later_a _ _).trans (later_a _ _)
 have HB:Hid (Bx2 C w.heap.size (w.heap.size+1) fr 17 (A:Int) (B:Int) c (N:Int) ((w.alloc (Obj.cells #[.int .i64 fr,v1,v2,v3] 61)).alloc (Obj.cells #[.int .i64 17,.int .i64 (A:Int),.int .i64 (B:Int),.int .i64 c,.int .i64 (N:Int)] 97))∧Al C ((w.alloc (Obj.cells #[.int .i64 fr,v1,v2,v3] 61)).alloc (Obj.cells #[.int .i64 17,.int .i64 (A:Int),.int .i64 (B:Int),.int .i64 c,.int .i64 (N:Int)] 97)) s q iv ov):=⟨by simpa using bx2_new h.mv 61 97 fr 17 (A:Int) (B:Int) c (N:Int) v1 v2 v3,h.kept hlx⟩
 generalize hQ:StM C q.ev (r)=Q at *
 have HQ:Hid (Q=StM C q.ev (r)):=hQ.symm
 have HP:Hid (q.pc+1=(s.pc:Int)∧s.pc≤6000):=⟨hpc,hpb⟩
 clear h hpc hpb hlx hQ;go_enter Tryz.func53,Tryz.ntmps53;go_upto_if 21 with fail
 revert HB
 generalize ((w.alloc (Obj.cells #[.int .i64 fr,v1,v2,v3] 61)).alloc (Obj.cells #[.int .i64 17,.int .i64 (A:Int),.int .i64 (B:Int),.int .i64 c,.int .i64 (N:Int)] 97))=wx
 generalize w.heap.size+1=B2
 generalize w.heap.size=B1
 intro HB;have bx:=HB.out.1;have al:=HB.out.2;have hQ:=HQ.out;have hP:=HP.out;have i12:=al.mv.c12.1;have z12:=al.mv.c12.2;clear c14 k1 k2 k3 k4 HQ HP HB;have p1:=hP.1;have p2:=hP.2;have p3:(s.pc:Int)≤6000:=by omega
 have p4:-10≤q.pc:=by omega
 have p5:q.pc≤6000:=by omega
 have nK:¬ B2=C.K:=bx.n2.1;have nR:¬ B2=C.RB:=bx.n2.2.2.2;have nW:¬ B2=C.WB:=bx.n2.2.1;obtain⟨rA,zA⟩:=al.mv.reg hA;have xA:(A:Int)<16:=by omega
 obtain⟨rB,zB⟩:=al.mv.reg hB;have xB:(B:Int)<16:=by omega
 have ba:=bx.a;have bb:=bx.b;have bc:=bx.c;have bn:=bx.n;have HL:Hid (∀ w9,Later wx w9→Calls Tryz.prog 82 #[.pointer (some ⟨C.K,0,none⟩),.int .i64 (s.rg A),.int .i64 (N:Int),.bool false] w9 (fun e w'=>∃ v,e=.returned v∧∃ y,v=.int .i64 y∧LoM C wx s q iv ov (s.fld C.x C.H (s.rg A) (N:Int)) y w')):=fun w9 l9=>lobj_m hC al l9 (fld_objO (by omega))
 have HS:Hid (∀ w',OnlyL C wx w'→(∃ q',Mv C w' s q' iv ov)→w'.cell? ⟨B2,1,none⟩=some (.int .i64 (A:Int))∧w'.cell? ⟨C.RB,A,none⟩=some (.int .i64 (s.rg A))∧w'.cell? ⟨B2,4,none⟩=some (.int .i64 (N:Int))):=fun w' o m=>by
  obtain⟨q',m⟩:=m;exact⟨(bx.only o).a,(m.reg hA).1,(bx.only o).n⟩
 have HM:Hid (∀ y w',LoM C wx s q iv ov (s.fld C.x C.H (s.rg A) (N:Int)) y w'→OnlyL C wx w'∧∃ q',Mv C w' s q' iv ov):=fun y w' h=>h.mv al
 have HZn:Hid (s.fld C.x C.H (s.rg A) (N:Int)=none→∀ w' w'',Mv C w' s (q.stop 7 0) iv ov→Later (w'.setCell ⟨C.K,12,none⟩ (.int .i64 (s.pc:Int))) w''→Q unitE w''):=fun e w' w'' m l=>by
  rw[hQ];exact st_finM (h0 e) (((al.stop m).pcs hC _).kept l)
 have H12:Hid (∀ w',Mv C w' s (q.stop 7 0) iv ov→w'.cell? ⟨C.K,12,none⟩=some (.int .i64 q.pc)∧w'.frozen? ⟨C.K,12,none⟩=false):=fun w' m=>by
  have:=m.c12;rw[stop_pc]at this;exact this
 have HPl:Hid (∀ a,s.fld C.x C.H (s.rg A) (N:Int)=some a→a<C.N∧q.W a=s.W a∧∀ v,Iv C.x C.H { s with W:=fset s.W a v }):=fun a e=>by
  obtain⟨k1,k2,k3⟩:=Vm.fld_ok (by omega) e;exact al.place hC k1 k2 k3
 have HZs:Hid (∀ a,s.fld C.x C.H (s.rg A) (N:Int)=some a→∀ w' w'',Later wx w'→Later ((w'.setCell ⟨C.WB,a,none⟩ (.int .i64 (s.rg B))).setCell ⟨C.K,12,none⟩ (.int .i64 (s.pc:Int))) w''→Q unitE w''):=fun a e w' w'' l l2=>by
  rw[hQ];exact ((al.kept l).word hC (HPl.out a e).1 (s.rg B) ((HPl.out a e).2.2 _)).go1 hC (h1 a e) rfl (Nat.le_succ _) l2
 have HF:Hid (∀ a,s.fld C.x C.H (s.rg A) (N:Int)=some a→∀ w',Later wx w'→w'.cell? ⟨C.K,3,none⟩=some (.slice (some ⟨C.WB,0,none⟩) C.N C.N)∧(w'.cell? ⟨C.WB,a,none⟩=some (.int .i64 (s.W a))∧w'.frozen? ⟨C.WB,a,none⟩=false)∧(w'.cell? ⟨C.K,12,none⟩=some (.int .i64 q.pc)∧w'.frozen? ⟨C.K,12,none⟩=false)∧(w'.cell? ⟨C.RB,B,none⟩=some (.int .i64 (s.rg B))∧w'.frozen? ⟨C.RB,B,none⟩=false)∧w'.cell? ⟨B2,2,none⟩=some (.int .i64 (B:Int))∧(a:Int)<(C.N:Int)):=fun a e w' l=>by
  obtain⟨k1,k2,_⟩:=HPl.out a e;have m:=al.mv.kept l;have hw:=m.word k1;rw[k2]at hw;exact⟨m.c3.1,hw,m.c12,m.reg hB,(bx.kept l).b,by omega⟩
 have hS0:=HS.out _ (OnlyL.of_later (Later.drew wx)) ⟨_,al.mv.kept (Later.drew wx)⟩;have x1:=hC.d1;have x3:=hC.d3;have x5:=hC.d5;clear al bx hQ hP h0 h1;go_wp2_with fail
 refine wp_region_held_drew (S:=fun w'=>w'.cell? ⟨B2,1,none⟩=some (.int .i64 (A:Int))∧w'.cell? ⟨C.RB,A,none⟩=some (.int .i64 (s.rg A))∧w'.cell? ⟨B2,4,none⟩=some (.int .i64 (N:Int))) (by kernel_rfl) (by exact hS0) (fun hHeld=>?_);refine tk 0 (.pointer (some ⟨C.K,0,none⟩)) rfl ?_;(try go_simp);refine tk 1 (.slice (some ⟨C.RB,0,none⟩) 16 16) rfl ?_;(try go_simp);refine tk 2 (.pointer (some ⟨B2,1,none⟩)) rfl ?_;(try go_simp);refine tk 3 (.int .i64 ((A:Int))) rfl ?_;(try go_simp);refine tk 4 (.pointer (some ⟨C.RB,A,none⟩)) rfl ?_;(try go_simp);refine tk 5 (.int .i64 (s.rg A)) rfl ?_;(try go_simp);refine tk 6 (.pointer (some ⟨B2,4,none⟩)) rfl ?_;(try go_simp);refine tk 7 (.int .i64 ((N:Int))) rfl ?_;(try go_simp);refine rd1 8 rfl fun K hK=>?_;refine step_call rfl 82 en_obj _ _ rfl [.pointer (some ⟨C.K,0,none⟩),.int .i64 (s.rg A),.int .i64 (N:Int),.bool false] rfl (fun v w'=>∃ y,v=.int .i64 y∧LoM C wx s q iv ov (s.fld C.x C.H (s.rg A) (N:Int)) y w') (HL.out _ (Later.drew _)) ?_;intro u2 w1 hc2;obtain⟨y,rfl,hlo⟩:=hc2;have hS2:=HS.out w1 (HM.out y w1 hlo).1 (HM.out y w1 hlo).2;refine hK.out _ _ ?_ (fun hHeld=>?_)
 ·first|assumption|(go_keep;done)|exact hS2
 clear hK K;(try go_simp);refine rd1 9 rfl fun K hK=>?_;go_simp;refine hK.out _ _ ?_ (fun hHeld=>?_)
 ·first|assumption|(go_keep;done)|exact hS2
 clear hK K;(try go_simp);refine wpAnyH_done (by kernel_rfl) ?_ _;clear hS0 hS2 HL HS HM rA zA rB zB ba bb bc bn i12 z12;rcases hlo with ⟨ho,rfl,m1,o1⟩|⟨a,ho,rfl,l1⟩
 ·obtain⟨j12,y12⟩:=H12.out w1 m1;have HZ2:Hid (∀ w'',Later (w1.setCell ⟨C.K,12,none⟩ (.int .i64 (s.pc:Int))) w''→Q unitE w''):=fun w''=>HZn.out ho w1 w'' m1;clear HZn HZs HPl HF H12 m1 o1 ho;unfold unitE at HZ2;go_wp2_with fail
  first|exact HZ2.out _ (Later.refl _)|(go_end0;exact HZ2.out _ (Later.refl _))
 ·obtain⟨d3,⟨dw,zw⟩,⟨j12,y12⟩,⟨rR,zR⟩,bR,g1⟩:=HF.out a ho w1 l1;have HZ2:Hid (∀ w'',Later ((w1.setCell ⟨C.WB,a,none⟩ (.int .i64 (s.rg B))).setCell ⟨C.K,12,none⟩ (.int .i64 (s.pc:Int))) w''→Q unitE w''):=fun w''=>HZs.out a ho w1 w'' l1;have g2:(0:Int)≤(a:Int):=by omega
  clear HZn HZs HPl HF H12 ho;unfold unitE at HZ2;go_wp2_with fail
  go_region
  go_wp2_with fail
  first|exact HZ2.out _ (by first|exact Later.refl _|exact Later.drew _|exact (Later.drew _).trans (Later.drew _)|exact Later.drewN' _ _)|(go_end0;exact HZ2.out _ (by first|exact Later.refl _|exact Later.drew _|exact (Later.drew _).trans (Later.drew _)|exact Later.drewN' _ _))
theorem mo18_any {C:Mx}(hC:MxI C) {w:World}{s:Vm}{q:Mq}{iv ov:Value}(h:Al C w s q iv ov) (hpc:q.pc+1=(s.pc:Int)) (hpb:s.pc≤6000) {A B D:Nat}(hA:A<16) (hB:B<16) (hD:D<16) (r:St) (h0:s.elm C.H (s.rg B) (s.rg D)=none→r=.fin 7 0 s) (h1:∀ a,s.elm C.H (s.rg B) (s.rg D)=some a→r=.go (s.set (A:Int) (s.W a))) (fr:Int) (v1 v2 v3:Value) (n:Int) :
  Calls Tryz.prog 53 #[.pointer (some ⟨C.K,0,none⟩),.agg #[.int .i64 fr,v1,v2,v3],.agg #[.int .i64 18,.int .i64 (A:Int),.int .i64 (B:Int),.int .i64 (D:Int),.int .i64 n]] w (StM C q.ev (r)):=by
 have c14:=h.mv.c14.1;obtain⟨k1,k2,k3,k4⟩:=h.mv.lts;have hlx:Later w ((w.alloc (Obj.cells #[.int .i64 fr,v1,v2,v3] 61)).alloc (Obj.cells #[.int .i64 18,.int .i64 (A:Int),.int .i64 (B:Int),.int .i64 (D:Int),.int .i64 n] 97)):=(later_a _ _).trans (later_a _ _)
 have HB:Hid (Bx2 C w.heap.size (w.heap.size+1) fr 18 (A:Int) (B:Int) (D:Int) n ((w.alloc (Obj.cells #[.int .i64 fr,v1,v2,v3] 61)).alloc (Obj.cells #[.int .i64 18,.int .i64 (A:Int),.int .i64 (B:Int),.int .i64 (D:Int),.int .i64 n] 97))∧Al C ((w.alloc (Obj.cells #[.int .i64 fr,v1,v2,v3] 61)).alloc (Obj.cells #[.int .i64 18,.int .i64 (A:Int),.int .i64 (B:Int),.int .i64 (D:Int),.int .i64 n] 97)) s q iv ov):=⟨by simpa using bx2_new h.mv 61 97 fr 18 (A:Int) (B:Int) (D:Int) n v1 v2 v3,h.kept hlx⟩
 generalize hQ:StM C q.ev (r)=Q at *
 have HQ:Hid (Q=StM C q.ev (r)):=hQ.symm
 have HP:Hid (q.pc+1=(s.pc:Int)∧s.pc≤6000):=⟨hpc,hpb⟩
 clear h hpc hpb hlx hQ;go_enter Tryz.func53,Tryz.ntmps53;go_upto_if 21 with fail
 revert HB
 generalize ((w.alloc (Obj.cells #[.int .i64 fr,v1,v2,v3] 61)).alloc (Obj.cells #[.int .i64 18,.int .i64 (A:Int),.int .i64 (B:Int),.int .i64 (D:Int),.int .i64 n] 97))=wx
 generalize w.heap.size+1=B2
 generalize w.heap.size=B1
 intro HB;have bx:=HB.out.1;have al:=HB.out.2;have hQ:=HQ.out;have hP:=HP.out;have i12:=al.mv.c12.1;have z12:=al.mv.c12.2;clear c14 k1 k2 k3 k4 HQ HP HB;have p1:=hP.1;have p2:=hP.2;have p3:(s.pc:Int)≤6000:=by omega
 have p4:-10≤q.pc:=by omega
 have p5:q.pc≤6000:=by omega
 have nK:¬ B2=C.K:=bx.n2.1;have nR:¬ B2=C.RB:=bx.n2.2.2.2;have nW:¬ B2=C.WB:=bx.n2.2.1;obtain⟨rA,zA⟩:=al.mv.reg hA;have xA:(A:Int)<16:=by omega
 obtain⟨rB,zB⟩:=al.mv.reg hB;have xB:(B:Int)<16:=by omega
 obtain⟨rD,zD⟩:=al.mv.reg hD;have xD:(D:Int)<16:=by omega
 have ba:=bx.a;have bb:=bx.b;have bc:=bx.c;have bn:=bx.n;have HL:Hid (∀ w9,Later wx w9→Calls Tryz.prog 82 #[.pointer (some ⟨C.K,0,none⟩),.int .i64 (s.rg B),.int .i64 (s.rg D),.bool true] w9 (fun e w'=>∃ v,e=.returned v∧∃ y,v=.int .i64 y∧LoM C wx s q iv ov (s.elm C.H (s.rg B) (s.rg D)) y w')):=fun w9 l9=>lobj_m hC al l9 (elm_objO (by have:=al.iv.u;omega))
 have HS:Hid (∀ w',OnlyL C wx w'→(∃ q',Mv C w' s q' iv ov)→w'.cell? ⟨B2,2,none⟩=some (.int .i64 (B:Int))∧w'.cell? ⟨C.RB,B,none⟩=some (.int .i64 (s.rg B))∧w'.cell? ⟨B2,3,none⟩=some (.int .i64 (D:Int))∧w'.cell? ⟨C.RB,D,none⟩=some (.int .i64 (s.rg D))):=fun w' o m=>by
  obtain⟨q',m⟩:=m;exact⟨(bx.only o).b,(m.reg hB).1,(bx.only o).c,(m.reg hD).1⟩
 have HM:Hid (∀ y w',LoM C wx s q iv ov (s.elm C.H (s.rg B) (s.rg D)) y w'→OnlyL C wx w'∧∃ q',Mv C w' s q' iv ov):=fun y w' h=>h.mv al
 have HZn:Hid (s.elm C.H (s.rg B) (s.rg D)=none→∀ w' w'',Mv C w' s (q.stop 7 0) iv ov→Later (w'.setCell ⟨C.K,12,none⟩ (.int .i64 (s.pc:Int))) w''→Q unitE w''):=fun e w' w'' m l=>by
  rw[hQ];exact st_finM (h0 e) (((al.stop m).pcs hC _).kept l)
 have H12:Hid (∀ w',Mv C w' s (q.stop 7 0) iv ov→w'.cell? ⟨C.K,12,none⟩=some (.int .i64 q.pc)∧w'.frozen? ⟨C.K,12,none⟩=false):=fun w' m=>by
  have:=m.c12;rw[stop_pc]at this;exact this
 have HPl:Hid (∀ a,s.elm C.H (s.rg B) (s.rg D)=some a→a<C.N∧q.W a=s.W a∧∀ v,Iv C.x C.H { s with W:=fset s.W a v }):=fun a e=>by
  obtain⟨k1,k2,k3⟩:=Vm.elm_ok (x:=C.x) e;exact al.place hC k1 k2 k3
 have HZs:Hid (∀ a,s.elm C.H (s.rg B) (s.rg D)=some a→∀ w' w'',Later wx w'→Later ((w'.setCell ⟨C.RB,A,none⟩ (.int .i64 (s.W a))).setCell ⟨C.K,12,none⟩ (.int .i64 (s.pc:Int))) w''→Q unitE w''):=fun a e w' w'' l l2=>by
  rw[hQ];exact ((al.kept l).reg1 hC hA (s.W a)).go1 hC (h1 a e) rfl (Nat.le_succ _) l2
 have HF:Hid (∀ a,s.elm C.H (s.rg B) (s.rg D)=some a→∀ w',Later wx w'→w'.cell? ⟨C.K,3,none⟩=some (.slice (some ⟨C.WB,0,none⟩) C.N C.N)∧(w'.cell? ⟨C.WB,a,none⟩=some (.int .i64 (s.W a))∧w'.frozen? ⟨C.WB,a,none⟩=false)∧(w'.cell? ⟨C.K,12,none⟩=some (.int .i64 q.pc)∧w'.frozen? ⟨C.K,12,none⟩=false)∧(w'.cell? ⟨C.RB,A,none⟩=some (.int .i64 (s.rg A))∧w'.frozen? ⟨C.RB,A,none⟩=false)∧w'.cell? ⟨B2,1,none⟩=some (.int .i64 (A:Int))∧(a:Int)<(C.N:Int)):=fun a e w' l=>by
  obtain⟨k1,k2,_⟩:=HPl.out a e;have m:=al.mv.kept l;have hw:=m.word k1;rw[k2]at hw;exact⟨m.c3.1,hw,m.c12,m.reg hA,(bx.kept l).a,by omega⟩
 have hS0:=HS.out _ (OnlyL.of_later (Later.drew wx)) ⟨_,al.mv.kept (Later.drew wx)⟩;have x1:=hC.d1;have x3:=hC.d3;have x5:=hC.d5;clear al bx hQ hP h0 h1;go_wp2_with fail
 refine wp_region_held_drew (S:=fun w'=>w'.cell? ⟨B2,2,none⟩=some (.int .i64 (B:Int))∧w'.cell? ⟨C.RB,B,none⟩=some (.int .i64 (s.rg B))∧w'.cell? ⟨B2,3,none⟩=some (.int .i64 (D:Int))∧w'.cell? ⟨C.RB,D,none⟩=some (.int .i64 (s.rg D))) (by kernel_rfl) (by exact hS0) (fun hHeld=>?_);refine tk 0 (.pointer (some ⟨C.K,0,none⟩)) rfl ?_;(try go_simp);refine tk 1 (.slice (some ⟨C.RB,0,none⟩) 16 16) rfl ?_;(try go_simp);refine tk 2 (.pointer (some ⟨B2,2,none⟩)) rfl ?_;(try go_simp);refine tk 3 (.int .i64 ((B:Int))) rfl ?_;(try go_simp);refine tk 4 (.pointer (some ⟨C.RB,B,none⟩)) rfl ?_;(try go_simp);refine tk 5 (.int .i64 (s.rg B)) rfl ?_;(try go_simp);refine tk 6 (.slice (some ⟨C.RB,0,none⟩) 16 16) rfl ?_;(try go_simp);refine tk 7 (.pointer (some ⟨B2,3,none⟩)) rfl ?_;(try go_simp);refine tk 8 (.int .i64 ((D:Int))) rfl ?_;(try go_simp);refine tk 9 (.pointer (some ⟨C.RB,D,none⟩)) rfl ?_;(try go_simp);refine tk 10 (.int .i64 (s.rg D)) rfl ?_;(try go_simp);refine rd1 11 rfl fun K hK=>?_;refine step_call rfl 82 en_obj _ _ rfl [.pointer (some ⟨C.K,0,none⟩),.int .i64 (s.rg B),.int .i64 (s.rg D),.bool true] rfl (fun v w'=>∃ y,v=.int .i64 y∧LoM C wx s q iv ov (s.elm C.H (s.rg B) (s.rg D)) y w') (HL.out _ (Later.drew _)) ?_;intro u2 w1 hc2;obtain⟨y,rfl,hlo⟩:=hc2;have hS2:=HS.out w1 (HM.out y w1 hlo).1 (HM.out y w1 hlo).2;refine hK.out _ _ ?_ (fun hHeld=>?_)
 ·first|assumption|(go_keep;done)|exact hS2
 clear hK K;(try go_simp);refine rd1 12 rfl fun K hK=>?_;go_simp;refine hK.out _ _ ?_ (fun hHeld=>?_)
 ·first|assumption|(go_keep;done)|exact hS2
 clear hK K;(try go_simp);refine wpAnyH_done (by kernel_rfl) ?_ _;clear hS0 hS2 HL HS HM rA zA rB zB rD zD ba bb bc bn i12 z12;rcases hlo with ⟨ho,rfl,m1,o1⟩|⟨a,ho,rfl,l1⟩
 ·obtain⟨j12,y12⟩:=H12.out w1 m1;have HZ2:Hid (∀ w'',Later (w1.setCell ⟨C.K,12,none⟩ (.int .i64 (s.pc:Int))) w''→Q unitE w''):=fun w''=>HZn.out ho w1 w'' m1;clear HZn HZs HPl HF H12 m1 o1 ho;unfold unitE at HZ2;go_wp2_with fail
  first|exact HZ2.out _ (Later.refl _)|(go_end0;exact HZ2.out _ (Later.refl _))
 ·obtain⟨d3,⟨dw,zw⟩,⟨j12,y12⟩,⟨rR,zR⟩,bR,g1⟩:=HF.out a ho w1 l1;have HZ2:Hid (∀ w'',Later ((w1.setCell ⟨C.RB,A,none⟩ (.int .i64 (s.W a))).setCell ⟨C.K,12,none⟩ (.int .i64 (s.pc:Int))) w''→Q unitE w''):=fun w''=>HZs.out a ho w1 w'' l1;have g2:(0:Int)≤(a:Int):=by omega
  clear HZn HZs HPl HF H12 ho
  generalize s.W a=V at *
  unfold unitE at HZ2;go_wp2_with fail
  go_region
  go_wp2_with fail
  first|exact HZ2.out _ (by first|exact Later.refl _|exact Later.drew _|exact (Later.drew _).trans (Later.drew _)|exact Later.drewN' _ _)|(go_end0;exact HZ2.out _ (by first|exact Later.refl _|exact Later.drew _|exact (Later.drew _).trans (Later.drew _)|exact Later.drewN' _ _))
theorem mo19_any {C:Mx}(hC:MxI C) {w:World}{s:Vm}{q:Mq}{iv ov:Value}(h:Al C w s q iv ov) (hpc:q.pc+1=(s.pc:Int)) (hpb:s.pc≤6000) {A B D:Nat}(hA:A<16) (hB:B<16) (hD:D<16) (r:St) (h0:s.elm C.H (s.rg A) (s.rg B)=none→r=.fin 7 0 s) (h1:∀ a,s.elm C.H (s.rg A) (s.rg B)=some a→r=.go { s with W:=fset s.W a (s.rg D) }) (fr:Int) (v1 v2 v3:Value) (n:Int) :
  Calls Tryz.prog 53 #[.pointer (some ⟨C.K,0,none⟩),.agg #[.int .i64 fr,v1,v2,v3],.agg #[.int .i64 19,.int .i64 (A:Int),.int .i64 (B:Int),.int .i64 (D:Int),.int .i64 n]] w (StM C q.ev (r)):=by
 have c14:=h.mv.c14.1;obtain⟨k1,k2,k3,k4⟩:=h.mv.lts;have hlx:Later w ((w.alloc (Obj.cells #[.int .i64 fr,v1,v2,v3] 61)).alloc (Obj.cells #[.int .i64 19,.int .i64 (A:Int),.int .i64 (B:Int),.int .i64 (D:Int),.int .i64 n] 97)):=(later_a _ _).trans (later_a _ _)
 have HB:Hid (Bx2 C w.heap.size (w.heap.size+1) fr 19 (A:Int) (B:Int) (D:Int) n ((w.alloc (Obj.cells #[.int .i64 fr,v1,v2,v3] 61)).alloc (Obj.cells #[.int .i64 19,.int .i64 (A:Int),.int .i64 (B:Int),.int .i64 (D:Int),.int .i64 n] 97))∧Al C ((w.alloc (Obj.cells #[.int .i64 fr,v1,v2,v3] 61)).alloc (Obj.cells #[.int .i64 19,.int .i64 (A:Int),.int .i64 (B:Int),.int .i64 (D:Int),.int .i64 n] 97)) s q iv ov):=⟨by simpa using bx2_new h.mv 61 97 fr 19 (A:Int) (B:Int) (D:Int) n v1 v2 v3,h.kept hlx⟩
 generalize hQ:StM C q.ev (r)=Q at *
 have HQ:Hid (Q=StM C q.ev (r)):=hQ.symm
 have HP:Hid (q.pc+1=(s.pc:Int)∧s.pc≤6000):=⟨hpc,hpb⟩
 clear h hpc hpb hlx hQ;go_enter Tryz.func53,Tryz.ntmps53;go_upto_if 21 with fail
 revert HB
 generalize ((w.alloc (Obj.cells #[.int .i64 fr,v1,v2,v3] 61)).alloc (Obj.cells #[.int .i64 19,.int .i64 (A:Int),.int .i64 (B:Int),.int .i64 (D:Int),.int .i64 n] 97))=wx
 generalize w.heap.size+1=B2
 generalize w.heap.size=B1
 intro HB;have bx:=HB.out.1;have al:=HB.out.2;have hQ:=HQ.out;have hP:=HP.out;have i12:=al.mv.c12.1;have z12:=al.mv.c12.2;clear c14 k1 k2 k3 k4 HQ HP HB;have p1:=hP.1;have p2:=hP.2;have p3:(s.pc:Int)≤6000:=by omega
 have p4:-10≤q.pc:=by omega
 have p5:q.pc≤6000:=by omega
 have nK:¬ B2=C.K:=bx.n2.1;have nR:¬ B2=C.RB:=bx.n2.2.2.2;have nW:¬ B2=C.WB:=bx.n2.2.1;obtain⟨rA,zA⟩:=al.mv.reg hA;have xA:(A:Int)<16:=by omega
 obtain⟨rB,zB⟩:=al.mv.reg hB;have xB:(B:Int)<16:=by omega
 obtain⟨rD,zD⟩:=al.mv.reg hD;have xD:(D:Int)<16:=by omega
 have ba:=bx.a;have bb:=bx.b;have bc:=bx.c;have bn:=bx.n;have HL:Hid (∀ w9,Later wx w9→Calls Tryz.prog 82 #[.pointer (some ⟨C.K,0,none⟩),.int .i64 (s.rg A),.int .i64 (s.rg B),.bool true] w9 (fun e w'=>∃ v,e=.returned v∧∃ y,v=.int .i64 y∧LoM C wx s q iv ov (s.elm C.H (s.rg A) (s.rg B)) y w')):=fun w9 l9=>lobj_m hC al l9 (elm_objO (by have:=al.iv.u;omega))
 have HS:Hid (∀ w',OnlyL C wx w'→(∃ q',Mv C w' s q' iv ov)→w'.cell? ⟨B2,1,none⟩=some (.int .i64 (A:Int))∧w'.cell? ⟨C.RB,A,none⟩=some (.int .i64 (s.rg A))∧w'.cell? ⟨B2,2,none⟩=some (.int .i64 (B:Int))∧w'.cell? ⟨C.RB,B,none⟩=some (.int .i64 (s.rg B))):=fun w' o m=>by
  obtain⟨q',m⟩:=m;exact⟨(bx.only o).a,(m.reg hA).1,(bx.only o).b,(m.reg hB).1⟩
 have HM:Hid (∀ y w',LoM C wx s q iv ov (s.elm C.H (s.rg A) (s.rg B)) y w'→OnlyL C wx w'∧∃ q',Mv C w' s q' iv ov):=fun y w' h=>h.mv al
 have HZn:Hid (s.elm C.H (s.rg A) (s.rg B)=none→∀ w' w'',Mv C w' s (q.stop 7 0) iv ov→Later (w'.setCell ⟨C.K,12,none⟩ (.int .i64 (s.pc:Int))) w''→Q unitE w''):=fun e w' w'' m l=>by
  rw[hQ];exact st_finM (h0 e) (((al.stop m).pcs hC _).kept l)
 have H12:Hid (∀ w',Mv C w' s (q.stop 7 0) iv ov→w'.cell? ⟨C.K,12,none⟩=some (.int .i64 q.pc)∧w'.frozen? ⟨C.K,12,none⟩=false):=fun w' m=>by
  have:=m.c12;rw[stop_pc]at this;exact this
 have HPl:Hid (∀ a,s.elm C.H (s.rg A) (s.rg B)=some a→a<C.N∧q.W a=s.W a∧∀ v,Iv C.x C.H { s with W:=fset s.W a v }):=fun a e=>by
  obtain⟨k1,k2,k3⟩:=Vm.elm_ok (x:=C.x) e;exact al.place hC k1 k2 k3
 have HZs:Hid (∀ a,s.elm C.H (s.rg A) (s.rg B)=some a→∀ w' w'',Later wx w'→Later ((w'.setCell ⟨C.WB,a,none⟩ (.int .i64 (s.rg D))).setCell ⟨C.K,12,none⟩ (.int .i64 (s.pc:Int))) w''→Q unitE w''):=fun a e w' w'' l l2=>by
  rw[hQ];exact ((al.kept l).word hC (HPl.out a e).1 (s.rg D) ((HPl.out a e).2.2 _)).go1 hC (h1 a e) rfl (Nat.le_succ _) l2
 have HF:Hid (∀ a,s.elm C.H (s.rg A) (s.rg B)=some a→∀ w',Later wx w'→w'.cell? ⟨C.K,3,none⟩=some (.slice (some ⟨C.WB,0,none⟩) C.N C.N)∧(w'.cell? ⟨C.WB,a,none⟩=some (.int .i64 (s.W a))∧w'.frozen? ⟨C.WB,a,none⟩=false)∧(w'.cell? ⟨C.K,12,none⟩=some (.int .i64 q.pc)∧w'.frozen? ⟨C.K,12,none⟩=false)∧(w'.cell? ⟨C.RB,D,none⟩=some (.int .i64 (s.rg D))∧w'.frozen? ⟨C.RB,D,none⟩=false)∧w'.cell? ⟨B2,3,none⟩=some (.int .i64 (D:Int))∧(a:Int)<(C.N:Int)):=fun a e w' l=>by
  obtain⟨k1,k2,_⟩:=HPl.out a e;have m:=al.mv.kept l;have hw:=m.word k1;rw[k2]at hw;exact⟨m.c3.1,hw,m.c12,m.reg hD,(bx.kept l).c,by omega⟩
 have hS0:=HS.out _ (OnlyL.of_later (Later.drew wx)) ⟨_,al.mv.kept (Later.drew wx)⟩;have x1:=hC.d1;have x3:=hC.d3;have x5:=hC.d5;clear al bx hQ hP h0 h1;go_wp2_with fail
 refine wp_region_held_drew (S:=fun w'=>w'.cell? ⟨B2,1,none⟩=some (.int .i64 (A:Int))∧w'.cell? ⟨C.RB,A,none⟩=some (.int .i64 (s.rg A))∧w'.cell? ⟨B2,2,none⟩=some (.int .i64 (B:Int))∧w'.cell? ⟨C.RB,B,none⟩=some (.int .i64 (s.rg B))) (by kernel_rfl) (by exact hS0) (fun hHeld=>?_);refine tk 0 (.pointer (some ⟨C.K,0,none⟩)) rfl ?_;(try go_simp);refine tk 1 (.slice (some ⟨C.RB,0,none⟩) 16 16) rfl ?_;(try go_simp);refine tk 2 (.pointer (some ⟨B2,1,none⟩)) rfl ?_;(try go_simp);refine tk 3 (.int .i64 ((A:Int))) rfl ?_;(try go_simp);refine tk 4 (.pointer (some ⟨C.RB,A,none⟩)) rfl ?_;(try go_simp);refine tk 5 (.int .i64 (s.rg A)) rfl ?_;(try go_simp);refine tk 6 (.slice (some ⟨C.RB,0,none⟩) 16 16) rfl ?_;(try go_simp);refine tk 7 (.pointer (some ⟨B2,2,none⟩)) rfl ?_;(try go_simp);refine tk 8 (.int .i64 ((B:Int))) rfl ?_;(try go_simp);refine tk 9 (.pointer (some ⟨C.RB,B,none⟩)) rfl ?_;(try go_simp);refine tk 10 (.int .i64 (s.rg B)) rfl ?_;(try go_simp);refine rd1 11 rfl fun K hK=>?_;refine step_call rfl 82 en_obj _ _ rfl [.pointer (some ⟨C.K,0,none⟩),.int .i64 (s.rg A),.int .i64 (s.rg B),.bool true] rfl (fun v w'=>∃ y,v=.int .i64 y∧LoM C wx s q iv ov (s.elm C.H (s.rg A) (s.rg B)) y w') (HL.out _ (Later.drew _)) ?_;intro u2 w1 hc2;obtain⟨y,rfl,hlo⟩:=hc2;have hS2:=HS.out w1 (HM.out y w1 hlo).1 (HM.out y w1 hlo).2;refine hK.out _ _ ?_ (fun hHeld=>?_)
 ·first|assumption|(go_keep;done)|exact hS2
 clear hK K;(try go_simp);refine rd1 12 rfl fun K hK=>?_;go_simp;refine hK.out _ _ ?_ (fun hHeld=>?_)
 ·first|assumption|(go_keep;done)|exact hS2
 clear hK K;(try go_simp);refine wpAnyH_done (by kernel_rfl) ?_ _;clear hS0 hS2 HL HS HM rA zA rB zB rD zD ba bb bc bn i12 z12;rcases hlo with ⟨ho,rfl,m1,o1⟩|⟨a,ho,rfl,l1⟩
 ·obtain⟨j12,y12⟩:=H12.out w1 m1;have HZ2:Hid (∀ w'',Later (w1.setCell ⟨C.K,12,none⟩ (.int .i64 (s.pc:Int))) w''→Q unitE w''):=fun w''=>HZn.out ho w1 w'' m1;clear HZn HZs HPl HF H12 m1 o1 ho;unfold unitE at HZ2;go_wp2_with fail
  first|exact HZ2.out _ (Later.refl _)|(go_end0;exact HZ2.out _ (Later.refl _))
 ·obtain⟨d3,⟨dw,zw⟩,⟨j12,y12⟩,⟨rR,zR⟩,bR,g1⟩:=HF.out a ho w1 l1;have HZ2:Hid (∀ w'',Later ((w1.setCell ⟨C.WB,a,none⟩ (.int .i64 (s.rg D))).setCell ⟨C.K,12,none⟩ (.int .i64 (s.pc:Int))) w''→Q unitE w''):=fun w''=>HZs.out a ho w1 w'' l1;have g2:(0:Int)≤(a:Int):=by omega
  clear HZn HZs HPl HF H12 ho;unfold unitE at HZ2;go_wp2_with fail
  go_region
  go_wp2_with fail
  first|exact HZ2.out _ (by first|exact Later.refl _|exact Later.drew _|exact (Later.drew _).trans (Later.drew _)|exact Later.drewN' _ _)|(go_end0;exact HZ2.out _ (by first|exact Later.refl _|exact Later.drew _|exact (Later.drew _).trans (Later.drew _)|exact Later.drewN' _ _))
end Go.Proofs.YtjnpncefkigcbaaGreat
