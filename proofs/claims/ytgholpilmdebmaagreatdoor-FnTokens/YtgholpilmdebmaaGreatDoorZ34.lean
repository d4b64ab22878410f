import Derived.Test.YtgholpilmdebmaaGreatDoorZ30
import Derived.Test.YtgholpilmdebmaaGreatDoorZ31
import Derived.Test.YtgholpilmdebmaaGreatDoorZ32
import Derived.Test.YtgholpilmdebmaaGreatDoorZ33
import Derived.Deep.Cut
import Derived.Deep.CutBlock
set_option maxHeartbeats 100000000
set_option maxRecDepth 100000
namespace Go.Proofs.YtgholpilmdebmaaGreatDoor
open Go.RowKit Go.Maps
theorem stm_arm9 (d:Int) (hd0:0≤d) (hd1:d≤3) (H0:Hid (∀ e:Int,-1≤e→e<4→ExD e)) (HS0:Hid (∀ e:Int,0≤e→e<d→StmD e)) {c:Dx}{v:Gv}{g g2:GS}{w w2:World}(few:v.n+8*(d+1).toNat≤999000) (Q:Ending→World→Prop) (HZ:Hid (∀ u w',StmR c v g w u w'→Q (.returned u) w')) (X2:Hid (Ec c v g w g2 w2∧Lb c g2 w2 w.heap.size [.int .i64 1,.int .i64 0])) {J0 K0:Act→World→Prop}(hJ0:∀ us w',(∃ g3,Hid (Ec c v g w g3 w'∧Lb c g3 w' w.heap.size [.int .i64 1,.int .i64 0]))→J0 { tmps:=([.pointer (some ⟨c.G,0,none⟩),.int .i64 d,undef,undef,us 4,.pointer (some ⟨w.heap.size,0,none⟩),us 6]++tl us 7 313).toArray,defers:=[] } w') (hK0:∀ a' w',Met J0 a' w'→K0 a' w') (z:Int) (hz:z=9) (T:List Value) (eT:T=[.pointer (some ⟨c.G,0,none⟩),.int .i64 d,undef,undef,T.getD 4 undef,.pointer (some ⟨w.heap.size,0,none⟩)]++tl (fun i=>T.getD i undef) 6 28++[.int .i64 z]++tl (fun i=>T.getD i undef) 35 285):Code.wp Tryz.prog sw94 (Exit.then K0 (bodyPost Tryz.prog Tryz.f94 Q)) { tmps:=T.toArray,defers:=[] } w2:=by
 have _u1:=And.intro hd0 (And.intro hd1 few);have _u2:=And.intro H0 HS0;have _u3:=And.intro HZ (And.intro hJ0 hK0);clear _u1 _u2 _u3;rw[eT];clear eT
 generalize (fun i=>T.getD i undef)=us0
 generalize T.getD 4 undef=y4
 show Code.wp _ (Code.block _ _) _ _ _;dsimp only [List.cons_append,List.nil_append,tl,Nat.reduceAdd];subst hz;have x2:Zx c v g w [(w.heap.size,[.int .i64 1,.int .i64 0])] g2 w2:=Zx.of X2.out.1 X2.out.2 (Nat.le_refl _);have hfl:=x2.ec.gs.fok.1;obtain⟨_,_,_,⟨fa,fp,hfv⟩,_⟩:=x2.ec.gs.nvS;have cG2:=x2.g2 hfv;clear HS0;by_cases hn0:0<v.fs.length
 ·have i1:(0:Int)<(v.fs.length:Int):=by omega
  obtain⟨fb,fp0,_,_,_,_,_,_,hfv0,_⟩:=x2.ec.gs.fnAt 0 hn0;rw[hfv]at hfv0
  cases hfv0
  clear X2;go_upto_region 51 with fail
  clear cG2;have hb2:∀ g0 w0,Zx c v g w [(w.heap.size,[.int .i64 1,.int .i64 0])] g0 w0→Hid (∀ w',Later w0 w'→Calls Tryz.prog 39 #[.pointer (some ⟨c.K,0,none⟩),.int .i64 (v.fs.length:Int)] w' fun e w2=>∃ u,e=.returned u∧CallR c v g0 w0 (IntV 0 (v.fs.length:Int)) u w2):=fun _ _ q _ l=>AnsP.call l (zal (q.ec.gs.later l) (v.fs.length:Int) (by omega) (by omega))
  have k2:Hid (w2.drew.cell? ⟨c.G,0,none⟩=some (.pointer (some ⟨c.K,0,none⟩))∧w2.drew.cell? ⟨c.G,2,none⟩=some (.slice (some ⟨fb,0,none⟩) v.fs.length fp)):=⟨(x2.later (Later.drew w2)).g0,(x2.later (Later.drew w2)).g2 hfv⟩
  have k0:Hid (w2.cell? ⟨c.G,0,none⟩=some (.pointer (some ⟨c.K,0,none⟩))∧w2.cell? ⟨c.G,2,none⟩=some (.slice (some ⟨fb,0,none⟩) v.fs.length fp)):=⟨x2.g0,x2.g2 hfv⟩
  obtain⟨tt0,tt1⟩:=k0.out
  go_region_held3 (fun w'=>w'.cell? ⟨c.G,0,none⟩=some (.pointer (some ⟨c.K,0,none⟩))∧w'.cell? ⟨c.G,2,none⟩=some (.slice (some ⟨fb,0,none⟩) v.fs.length fp)) (first|with_reducible exact k2.out|with_reducible exact k3.out|with_reducible exact k4.out|with_reducible exact ka.out _|with_reducible exact kb.out _ _|with_reducible exact kc3.out _ _ _) (first
   | ((fail_if_success (have _g:=x3));have _g:=x2;refine zaa rfl 39 zaw _ _ rfl [.pointer (some ⟨c.K,0,none⟩),.int .i64 (v.fs.length:Int)] rfl _ ((hb2 _ _ x2).out _ (Later.drew _)) ?_;rintro u3 w3 ⟨g3,s3,k3',za,rfl,hza⟩;have ov3:=(Ov.stp x2.ec.gs.ok s3).sub;have x3:=x2.call s3 k3';have za0:=hza.1;have za1:=hza.2;obtain⟨j,hj⟩:∃ j:Nat,za=(j:Int):=⟨za.toNat,by omega⟩;subst hj;have k3:Hid (w3.cell? ⟨c.G,0,none⟩=some (.pointer (some ⟨c.K,0,none⟩))∧w3.cell? ⟨c.G,2,none⟩=some (.slice (some ⟨fb,0,none⟩) v.fs.length fp)):=⟨x3.g0,x3.g2 hfv⟩)
   | ((fail_if_success (have _g:=x4));have _g:=x3;refine zaa rfl 93 en_call _ _ rfl [.pointer (some ⟨c.G,0,none⟩),.int .i64 (j:Int),.int .i64 3] rfl _ (AnsP.call (Later.refl _) (call_of 3 (by decide) (by decide) (H0.out 1 (by decide) (by decide)) x3.ec.gs j (by omega))) ?_;rintro u4 w4 ⟨g4,s4,k4',yk,yn,ytk,ytn,ya0,yn0,yc0,ya1,yn1,yc1,rfl,hy⟩;have x4:=x3.call s4 k4';have k4:Hid (w4.cell? ⟨c.G,0,none⟩=some (.pointer (some ⟨c.K,0,none⟩))∧w4.cell? ⟨c.G,2,none⟩=some (.slice (some ⟨fb,0,none⟩) v.fs.length fp)):=⟨x4.g0,x4.g2 hfv⟩;have ka:Hid (∀ o:Obj,(w4.alloc o).cell? ⟨c.G,0,none⟩=some (.pointer (some ⟨c.K,0,none⟩))∧(w4.alloc o).cell? ⟨c.G,2,none⟩=some (.slice (some ⟨fb,0,none⟩) v.fs.length fp)):=fun o=>⟨(x4.later (later1 _ o)).g0,(x4.later (later1 _ o)).g2 hfv⟩;have kb:Hid (∀ o o2:Obj,((w4.alloc o).alloc o2).cell? ⟨c.G,0,none⟩=some (.pointer (some ⟨c.K,0,none⟩))∧((w4.alloc o).alloc o2).cell? ⟨c.G,2,none⟩=some (.slice (some ⟨fb,0,none⟩) v.fs.length fp)):=fun o o2=>⟨(x4.later ((later1 _ o).trans (later1 _ o2))).g0,(x4.later ((later1 _ o).trans (later1 _ o2))).g2 hfv⟩;have kc3:Hid (∀ o o2 o3:Obj,(((w4.alloc o).alloc o2).alloc o3).cell? ⟨c.G,0,none⟩=some (.pointer (some ⟨c.K,0,none⟩))∧(((w4.alloc o).alloc o2).alloc o3).cell? ⟨c.G,2,none⟩=some (.slice (some ⟨fb,0,none⟩) v.fs.length fp)):=fun o o2 o3=>⟨(x4.later (((later1 _ o).trans (later1 _ o2)).trans (later1 _ o3))).g0,(x4.later (((later1 _ o).trans (later1 _ o2)).trans (later1 _ o3))).g2 hfv⟩))
  have hv:=HZ.out _ _ (x4.ec.stmK (nv:=v.nv) (tv:=v.tv) (xv:=v.xv) (n1:=v.n) (.inl rfl) rfl hy (k:=7) (n:=0) (tk:=0) (tn:=0) (by unfold InR;omega) (NmS.nil _)).out;clear HZ k0 ka kb kc3 k2 k3 k4 hb2 H0;go_wp2_with fail
  exact hv
 ·obtain hz0:v.fs.length=0:=by omega
  rw[hz0]at cG2;clear hfv
  have HM:Hid (∃ g3,Hid (Ec c v g w g3 w2∧Lb c g3 w2 w.heap.size [.int .i64 1,.int .i64 0])):=⟨_,⟨x2.ec,x2.b0⟩⟩
  clear HZ H0;go_wp2_with fail
  exact meetG hJ0 rfl HM.out
theorem stm_of (d:Int) (hd0:0≤d) (hd1:d≤3) (H:∀ e:Int,-1≤e→e<4→ExD e) (HS:∀ e:Int,0≤e→e<d→StmD e):StmD d:=by
 intro c g w v h few;have H0:Hid _:=H;have HS0:Hid _:=HS;obtain⟨nx,lf,c0,_,_,_,_,_,_,c7,_,_,fz,hG⟩:=h.ten;have f7:=fz 7 (by decide);obtain⟨k0,s0⟩:=h.setN (wrap64 (lf - 1));obtain⟨w1,hw1⟩:=hidx ((w.setCell ⟨c.G,7,none⟩ (.int .i64 (wrap64 (lf - 1)))).alloc (.cells #[.int .i64 1,.int .i64 0] 67))
 have X1:Hid (Ec c v g w g w1∧Lb c g w1 w.heap.size [.int .i64 1,.int .i64 0]):=by
  rw[hw1.out];have hb:=Lb.new k0 [.int .i64 1,.int .i64 0] 67;rw[World.size_setCell]at hb;exact⟨((Ec.start h).call s0 k0).later (later1 _ _),hb⟩
 have HZ0:∀ u w',StmR c v g w u w'→∃ u',Ending.returned u=.returned u'∧StmR c v g w u' w':=fun u w' q=>⟨u,rfl,q⟩
 generalize hQ:(fun (e:Ending) (w':World)=>∃ u,e=.returned u∧StmR c v g w u w')=Q
 have HZ:Hid (∀ u w',StmR c v g w u w'→Q (.returned u) w'):=fun u w' q=>by rw[←hQ];exact⟨u,rfl,q⟩
 clear HZ0 hQ h H HS fz k0 s0;go_enter Tryz.func94,Tryz.ntmps94;go_wp2_with fail
 rw[←hw1.out];clear hw1 c0 c7 f7 hG;refine (zal X1.out.1.gs 12 (by decide) (by decide)).mono ?_;rintro e w2 ⟨_,rfl,g2,s2,k2,z,rfl,z0,z1⟩
 have X2:Hid (Ec c v g w g2 w2∧Lb c g2 w2 w.heap.size [.int .i64 1,.int .i64 0]):=⟨X1.out.1.call s2 k2,X1.out.2.stp s2⟩
 clear X1 s2 k2;go_upto_block 0 with fail
 refine zdc (fun us=>[.pointer (some ⟨c.G,0,none⟩),.int .i64 d,undef,undef,us 4,.pointer (some ⟨w.heap.size,0,none⟩),us 6]++tl us 7 313) (fun wx=>∃ g3,Hid (Ec c v g w g3 wx∧Lb c g3 wx w.heap.size [.int .i64 1,.int .i64 0])) ?rest ?first
 case first =>
  intro J0 K0 hJ0 hK0;have hz:z=0∨z=1∨z=2∨z=3∨z=4∨z=5∨z=6∨z=7∨z=8∨z=9∨z=10∨z=11:=by omega
  clear z0 z1;rcases hz with rfl|rfl|rfl|rfl|rfl|rfl|rfl|rfl|rfl|rfl|rfl|rfl
  ·exact stm_arm0 d hd0 hd1 H0 HS0 few Q HZ X2 hJ0 hK0 _ (.inl rfl) _ rfl
  ·exact stm_arm0 d hd0 hd1 H0 HS0 few Q HZ X2 hJ0 hK0 _ (.inr rfl) _ rfl
  ·exact stm_arm2 d hd0 hd1 H0 HS0 few Q HZ X2 hJ0 hK0 _ (.inl rfl) _ rfl
  ·exact stm_arm2 d hd0 hd1 H0 HS0 few Q HZ X2 hJ0 hK0 _ (.inr rfl) _ rfl
  ·exact stm_arm4 d hd0 hd1 H0 HS0 few Q HZ X2 hJ0 hK0 _ rfl _ rfl
  ·exact stm_arm5 d hd0 hd1 H0 HS0 few Q HZ X2 hJ0 hK0 _ rfl _ rfl
  ·exact stm_arm6 d hd0 hd1 H0 HS0 few Q HZ X2 hJ0 hK0 _ (.inl rfl) _ rfl
  ·exact stm_arm6 d hd0 hd1 H0 HS0 few Q HZ X2 hJ0 hK0 _ (.inr rfl) _ rfl
  ·exact stm_arm8 d hd0 hd1 H0 HS0 few Q HZ X2 hJ0 hK0 _ rfl _ rfl
  ·exact stm_arm9 d hd0 hd1 H0 HS0 few Q HZ X2 hJ0 hK0 _ rfl _ rfl
  ·clear HZ H0 HS0;go_wp2_with fail
   exact meetG hJ0 rfl ⟨g2,X2⟩
  ·clear HZ H0 HS0;go_wp2_with fail
   exact meetG hJ0 rfl ⟨g2,X2⟩
 case rest =>
  intro us w3 hcut;obtain⟨g3,X3⟩:=hcut;dsimp only [List.take_succ_cons,List.take_zero,List.cons_append,List.nil_append,tl,Nat.reduceAdd];clear X2 HS0;have h3:w.heap.size≤w3.heap.size:=X3.out.1.st.size;obtain⟨w4,hw4⟩:=hidx (w3.alloc (.cells #[.int .i64 1,.int .i64 0] 67))
  have X4:Hid (Ec c v g w g3 w4∧Lb c g3 w4 w3.heap.size [.int .i64 1,.int .i64 0]):=by
   rw[hw4.out];exact⟨X3.out.1.later (later1 _ _),Lb.new X3.out.1.gs [.int .i64 1,.int .i64 0] 67⟩
  obtain⟨nx,lf,c0,_,_,_,_,_,_,_,_,_,_,hG⟩:=X3.out.1.gs.ten;obtain⟨t0,_⟩:=X3.out.2.bx.cell 0 _ rfl;obtain⟨t1,_⟩:=X3.out.2.bx.cell 1 _ rfl;clear X3;go_wp2_with fail
  rw[←hw4.out];clear hw4 c0 t0 t1 hG;refine (zce X4.out.1.gs 3 (by decide) (by decide)).mono ?_;rintro e w5 ⟨_,rfl,g5,s5,k5,b,rfl⟩
  have X5:Hid (Ec c v g w g5 w5∧Lb c g5 w5 w3.heap.size [.int .i64 1,.int .i64 0]):=⟨X4.out.1.call s5 k5,X4.out.2.stp s5⟩
  clear X4 s5 k5
  generalize w3.heap.size=R at *
  obtain⟨t0,f0⟩:=X5.out.2.bx.cell 0 _ rfl;obtain⟨t1,f1⟩:=X5.out.2.bx.cell 1 _ rfl;have hl:=X5.out.2.bx.lt;have HF:Hid (∀ (gk:GS) (wk:World) (tk tn:Int),Ec c v g w gk wk→InR tn→Calls Tryz.prog 60 #[.pointer (some ⟨c.G,0,none⟩),.agg #[.int .i64 tk,.int .i64 tn],.int .i64 2] wk (AnsP c v gk wk ExV)):=fun gk wk tk tn x y=>H0.out 2 (by decide) (by decide) c gk wk v tk tn x.gs y;clear H0
  cases b with
  | false =>
   go_wp2_with fail
   refine (HF.out g5 w5 1 0 X5.out.1 (by unfold InR;omega)).mono ?_;rintro e w7 ⟨_,rfl,g7,s7,k7,yk,yn,ytk,ytn,ya0,yn0,yc0,ya1,yn1,yc1,rfl,hy⟩;have x7:Ec c v g w g7 w7:=(X5.out.1).call s7 k7;have hv:=HZ.out _ _ (x7.stmK (nv:=v.nv) (tv:=v.tv) (xv:=v.xv) (n1:=v.n) (.inl rfl) rfl hy (k:=5) (n:=0) (tk:=0) (tn:=0) (by unfold InR;omega) (NmS.nil _)).out;clear X5 x7 s7 k7 hy HF HZ t0 t1 f0 f1;go_wp2_with fail
   exact hv
  | true =>
   obtain⟨w6,hw6⟩:=hidx ((w5.setCell ⟨R,0,none⟩ (.int .i64 2)).setCell ⟨R,1,none⟩ (.int .i64 0))
   have X6:Hid (Ec c v g w g5 w6):=by
    rw[hw6.out];exact X5.out.1.own X5.out.2 h3 (((OnlyK.refl _ _).set 0 _).set 1 _)
   go_wp2_with fail
   rw[←hw6.out];refine (HF.out g5 w6 2 0 X6.out (by unfold InR;omega)).mono ?_;rintro e w7 ⟨_,rfl,g7,s7,k7,yk,yn,ytk,ytn,ya0,yn0,yc0,ya1,yn1,yc1,rfl,hy⟩;have x7:Ec c v g w g7 w7:=(X6.out).call s7 k7;have hv:=HZ.out _ _ (x7.stmK (nv:=v.nv) (tv:=v.tv) (xv:=v.xv) (n1:=v.n) (.inl rfl) rfl hy (k:=5) (n:=0) (tk:=0) (tn:=0) (by unfold InR;omega) (NmS.nil _)).out;clear hw6 X6 X5 x7 s7 k7 hy HF HZ t0 t1 f0 f1;go_wp2_with fail
   exact hv
end Go.Proofs.YtgholpilmdebmaaGreatDoor
