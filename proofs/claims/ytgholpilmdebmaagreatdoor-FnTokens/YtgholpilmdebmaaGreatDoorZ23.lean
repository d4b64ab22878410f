import Derived.Test.YtgholpilmdebmaaGreatDoorZ22
import Derived.Test.YtgholpilmdebmaaGreatDoorZ06
import Derived.Test.YtgholpilmdebmaaGreatDoorZ11
import Derived.Lib.OwnKind
set_option maxHeartbeats 100000000
set_option maxRecDepth 100000
namespace Go.Proofs.YtgholpilmdebmaaGreatDoor
open Go.RowKit Go.Maps
def TyV (_:World) (u:Value):Prop:=∃ k n:Int,u=.agg #[.int .i64 k,.int .i64 n]∧InR n
theorem zda {c:Dx}{g:GS}{w:World}{v:Gv}(h:Gs c g w v):Calls Tryz.prog 58 #[.pointer (some ⟨c.G,0,none⟩)] w (AnsP c v g w TyV):=by
 obtain⟨nx,lf,c0,_,_,_,_,_,_,_,_,_,_,hG⟩:=h.ten;obtain⟨_,_,_,_,sa,sp,hsv⟩:=h.nvS;have hs1:=h.sok.1;obtain⟨w1,hw1⟩:=hidx (w.alloc (.cells #[.int .i64 0,.int .i64 0] 67));have b1:Lb c g w1 w.heap.size [.int .i64 0,.int .i64 0]:=by rw[hw1.out];exact Lb.new h [.int .i64 0,.int .i64 0] 67
 have x1:Ec c v g w g w1:=by rw[hw1.out];exact (Ec.start h).later (later1 _ _)
 have HB2:Hid (∀ g' w',(Ec c v g w g' w'∧Lb c g' w' w.heap.size [.int .i64 0,.int .i64 0])→(w'.cell? ⟨w.heap.size,0,none⟩=some (.int .i64 0)∧w'.frozen? ⟨w.heap.size,0,none⟩=false)∧(w'.cell? ⟨w.heap.size,1,none⟩=some (.int .i64 0)∧w'.frozen? ⟨w.heap.size,1,none⟩=false)∧w.heap.size<w'.heap.size):=fun _ _ q=>⟨q.2.bx.cell 0 _ rfl,q.2.bx.cell 1 _ rfl,q.2.bx.lt⟩
 have HF:Hid (∀ g' w',(Ec c v g w g' w'∧Lb c g' w' w.heap.size [.int .i64 0,.int .i64 0])→∀ k n:Int,InR n→∃ W,Hid (W=(w'.setCell ⟨w.heap.size,0,none⟩ (.int .i64 k)).setCell ⟨w.heap.size,1,none⟩ (.int .i64 n))∧W.cell? ⟨w.heap.size,0,none⟩=some (.int .i64 k)∧W.cell? ⟨w.heap.size,1,none⟩=some (.int .i64 n)∧Hid (AnsP c v g w TyV (.returned (.agg #[.int .i64 k,.int .i64 n])) W)):=fun g' w' q k n hn=>by
  have o:=((OnlyK.refl w.heap.size w').set 0 (.int .i64 k)).set 1 (.int .i64 n);have b:=(q.2.bx.set 0 (.int .i64 k) (by simp)).set 1 (.int .i64 n) (by simp);have e:=q.1.own q.2 (Nat.le_refl _) o;exact⟨_,rfl,(b.cell 0 _ rfl).1,(b.cell 1 _ rfl).1,_,rfl,g',e.st,e.gs,k,n,rfl,hn⟩
 have X1:Hid (Ec c v g w g w1∧Lb c g w1 w.heap.size [.int .i64 0,.int .i64 0]):=⟨x1,b1⟩
 have HSv:Hid _:=hsv;clear x1 b1 h hsv
 generalize AnsP c v g w TyV=Q at *
 go_enter Tryz.func58,Tryz.ntmps58;go_wp2_with fail
 rw[←hw1.out];clear hw1 c0 hG;refine (zal X1.out.1.gs 8 (by decide) (by decide)).mono ?_;rintro e w2 ⟨_,rfl,g2,s2,k2,z,rfl,z0,z1⟩
 have x2:Ec c v g w g2 w2∧Lb c g2 w2 w.heap.size [.int .i64 0,.int .i64 0]:=⟨X1.out.1.call s2 k2,X1.out.2.stp s2⟩
 clear X1 s2 k2;obtain⟨nx,lf,c0,c1,_⟩:=x2.1.gs.ten;rw[HSv.out]at c1;clear HSv
 generalize v.ss.length=n at *
 generalize w.heap.size=B at *
 obtain rfl|rfl|rfl|rfl|rfl|rfl|rfl|rfl:z=0∨z=1∨z=2∨z=3∨z=4∨z=5∨z=6∨z=7:=by omega
 ·obtain⟨W,hW,e0,e1,HW⟩:=HF.out _ _ x2 1 0 (by unfold InR;omega);obtain⟨⟨qa0,f0⟩,⟨qa1,f1⟩,qal⟩:=HB2.out _ _ x2;clear HF HB2 x2;go_wp2_with fail
  rw[←hW.out];exact bodyPost_ret (v:=.agg #[.int .i64 1,.int .i64 0]) (by simp[results,Tryz.results58,go_sem,e0,e1]) rfl HW.out
 ·obtain⟨W,hW,e0,e1,HW⟩:=HF.out _ _ x2 1 0 (by unfold InR;omega);obtain⟨⟨qa0,f0⟩,⟨qa1,f1⟩,qal⟩:=HB2.out _ _ x2;clear HF HB2 x2;go_wp2_with fail
  rw[←hW.out];exact bodyPost_ret (v:=.agg #[.int .i64 1,.int .i64 0]) (by simp[results,Tryz.results58,go_sem,e0,e1]) rfl HW.out
 ·obtain⟨W,hW,e0,e1,HW⟩:=HF.out _ _ x2 1 0 (by unfold InR;omega);obtain⟨⟨qa0,f0⟩,⟨qa1,f1⟩,qal⟩:=HB2.out _ _ x2;clear HF HB2 x2;go_wp2_with fail
  rw[←hW.out];exact bodyPost_ret (v:=.agg #[.int .i64 1,.int .i64 0]) (by simp[results,Tryz.results58,go_sem,e0,e1]) rfl HW.out
 ·by_cases hn:n=0
  ·subst hn;obtain⟨W,hW,e0,e1,HW⟩:=HF.out _ _ x2 2 0 (by unfold InR;omega);obtain⟨⟨qa0,f0⟩,⟨qa1,f1⟩,qal⟩:=HB2.out _ _ x2;clear HF HB2 x2;go_wp2_with fail
   rw[←hW.out];exact bodyPost_ret (v:=.agg #[.int .i64 2,.int .i64 0]) (by simp[results,Tryz.results58,go_sem,e0,e1]) rfl HW.out
  ·have i1:((n:Int)==0)=false:=by simp;omega
   obtain⟨W,hW,e0,e1,HW⟩:=HF.out _ _ x2 2 0 (by unfold InR;omega);obtain⟨⟨qa0,f0⟩,⟨qa1,f1⟩,qal⟩:=HB2.out _ _ x2;clear HF HB2 x2;go_wp2_with fail
   rw[←hW.out];exact bodyPost_ret (v:=.agg #[.int .i64 2,.int .i64 0]) (by simp[results,Tryz.results58,go_sem,e0,e1]) rfl HW.out
 ·by_cases hn:n=0
  ·subst hn;obtain⟨W,hW,e0,e1,HW⟩:=HF.out _ _ x2 4 0 (by unfold InR;omega);obtain⟨⟨qa0,f0⟩,⟨qa1,f1⟩,qal⟩:=HB2.out _ _ x2;clear HF HB2 x2;go_wp2_with fail
   rw[←hW.out];exact bodyPost_ret (v:=.agg #[.int .i64 4,.int .i64 0]) (by simp[results,Tryz.results58,go_sem,e0,e1]) rfl HW.out
  ·have i1:((n:Int)==0)=false:=by simp;omega
   obtain⟨W,hW,e0,e1,HW⟩:=HF.out _ _ x2 4 0 (by unfold InR;omega);obtain⟨⟨qa0,f0⟩,⟨qa1,f1⟩,qal⟩:=HB2.out _ _ x2;clear HF HB2 x2;go_wp2_with fail
   rw[←hW.out];exact bodyPost_ret (v:=.agg #[.int .i64 4,.int .i64 0]) (by simp[results,Tryz.results58,go_sem,e0,e1]) rfl HW.out
 ·by_cases hn:n=0
  ·subst hn;obtain⟨W,hW,e0,e1,HW⟩:=HF.out _ _ x2 5 0 (by unfold InR;omega);obtain⟨⟨qa0,f0⟩,⟨qa1,f1⟩,qal⟩:=HB2.out _ _ x2;clear HF HB2 x2;go_wp2_with fail
   rw[←hW.out];exact bodyPost_ret (v:=.agg #[.int .i64 5,.int .i64 0]) (by simp[results,Tryz.results58,go_sem,e0,e1]) rfl HW.out
  ·have i1:((n:Int)==0)=false:=by simp;omega
   obtain⟨W,hW,e0,e1,HW⟩:=HF.out _ _ x2 5 0 (by unfold InR;omega);obtain⟨⟨qa0,f0⟩,⟨qa1,f1⟩,qal⟩:=HB2.out _ _ x2;clear HF HB2 x2;go_wp2_with fail
   rw[←hW.out];exact bodyPost_ret (v:=.agg #[.int .i64 5,.int .i64 0]) (by simp[results,Tryz.results58,go_sem,e0,e1]) rfl HW.out
 ·by_cases hn:n=0
  ·subst hn;obtain⟨W,hW,e0,e1,HW⟩:=HF.out _ _ x2 1 0 (by unfold InR;omega);obtain⟨⟨qa0,f0⟩,⟨qa1,f1⟩,qal⟩:=HB2.out _ _ x2;clear HF HB2 x2;go_wp2_with fail
   rw[←hW.out];exact bodyPost_ret (v:=.agg #[.int .i64 1,.int .i64 0]) (by simp[results,Tryz.results58,go_sem,e0,e1]) rfl HW.out
  ·have i1:((n:Int)==0)=false:=by simp;omega
   have HB:=zal x2.1.gs (n:Int) (by omega) (by omega);go_wp2_with fail
   refine HB.mono ?_;rintro e w3 ⟨_,rfl,g3,s3,k3,y,rfl,y0,y1⟩
   have x3:Ec c v g w g3 w3∧Lb c g3 w3 B [.int .i64 0,.int .i64 0]:=⟨x2.1.call s3 k3,x2.2.stp s3⟩
   clear x2 s3 k3 HB c0 c1;obtain⟨W,hW,e0,e1,HW⟩:=HF.out _ _ x3 3 y (by unfold InR;omega);obtain⟨⟨qa0,f0⟩,⟨qa1,f1⟩,qal⟩:=HB2.out _ _ x3;clear HF HB2 x3;go_wp2_with fail
   rw[←hW.out];exact bodyPost_ret (v:=.agg #[.int .i64 3,.int .i64 y]) (by simp[results,Tryz.results58,go_sem,e0,e1]) rfl HW.out
 ·by_cases hn:n=0
  ·subst hn;obtain⟨W,hW,e0,e1,HW⟩:=HF.out _ _ x2 1 0 (by unfold InR;omega);obtain⟨⟨qa0,f0⟩,⟨qa1,f1⟩,qal⟩:=HB2.out _ _ x2;clear HF HB2 x2;go_wp2_with fail
   rw[←hW.out];exact bodyPost_ret (v:=.agg #[.int .i64 1,.int .i64 0]) (by simp[results,Tryz.results58,go_sem,e0,e1]) rfl HW.out
  ·have i1:((n:Int)==0)=false:=by simp;omega
   have HB:=zal x2.1.gs (n:Int) (by omega) (by omega);go_wp2_with fail
   refine HB.mono ?_;rintro e w3 ⟨_,rfl,g3,s3,k3,y,rfl,y0,y1⟩
   have x3:Ec c v g w g3 w3∧Lb c g3 w3 B [.int .i64 0,.int .i64 0]:=⟨x2.1.call s3 k3,x2.2.stp s3⟩
   clear x2 s3 k3 HB c0 c1;obtain⟨W,hW,e0,e1,HW⟩:=HF.out _ _ x3 6 y (by unfold InR;omega);obtain⟨⟨qa0,f0⟩,⟨qa1,f1⟩,qal⟩:=HB2.out _ _ x3;clear HF HB2 x3;go_wp2_with fail
   rw[←hW.out];exact bodyPost_ret (v:=.agg #[.int .i64 6,.int .i64 y]) (by simp[results,Tryz.results58,go_sem,e0,e1]) rfl HW.out
theorem expr_all' (H:∀ d:Int,-1≤d→d≤3→(∀ e,-1≤e→e<d→ExD e)→ExD d):∀ (n:Nat) (d:Int),-1≤d→d≤3→d+1≤n→ExD d
 | 0,d,h0,h1,hn=>H d h0 h1 fun e e0 e1=>by omega
 | n+1,d,h0,h1,hn=>H d h0 h1 fun e e0 e1=>expr_all' H n e e0 (by omega) (by omega)
theorem row_cut {w:World}{B:Nat}{t:TypeId}{k:Nat}{a:Option Addr}{N p n:Nat}{xs:List Value}(h:w.ownsRow B t k (.slice a N p) N xs) (hn:n≤N):w.ownsRow B t k (.slice a n p) n (xs.take (n*k)):=by
 have hm:n*k≤N*k:=Nat.mul_le_mul_right k hn;refine⟨by rw[List.length_take,h.1];omega,?_⟩;rcases h.2 with ⟨e1,e2⟩|⟨g,cap,cur,e1,h1,h2,h3,h4,h5,h6⟩
 ·left
  have:n=0:=by omega
  subst this;subst e2;exact⟨e1,rfl⟩
 ·right
  cases e1
  refine⟨g,p,cur,rfl,h1,h2,Nat.le_trans hn h3,h4,h5,?_⟩;rw[←h6,List.take_take,Nat.min_eq_left hm]
theorem zct {w:World}{B:Nat}{t:TypeId}{k:Nat}{a:Option Addr}{N p:Nat}{xs:List Value}(h:w.ownsRow B t k (.slice a N p) N xs):N≤p∧p≤maxLen:=by
 rcases h.2 with ⟨e1,e2⟩|⟨g,cap,cur,e1,h1,h2,h3,h4,h5,h6⟩
 ·cases e1
  exact⟨Nat.le_refl _,by unfold maxLen;omega⟩
 ·cases e1
  exact⟨h3,h4⟩
theorem ownB_cut (a:Option Addr) (N n p:Nat):Value.ownBlock (.slice a n p)=Value.ownBlock (.slice a N p):=by cases a <;> rfl
theorem Gs.curG {c:Dx}{g:GS}{w w':World}{v:Gv}(h:Gs c g w v) (o:OnlyK c.G w w'):Cur c.B c.K c.a c.len c.cap w'∧Ov g w g w'∧(∀ {t:TypeId}{k:Nat}{u:Value}{n:Nat}{xs:List Value},w.ownsRow (c.G+1) t k u n xs→w'.ownsRow (c.G+1) t k u n xs):=by
 have hkg:=h.kg;have hk:=h.cur.hK;have hB:=h.cur.hB;have hn:c.K≠c.G:=by omega
 refine⟨⟨?_,?_,?_,?_,?_,hB,Nat.lt_of_lt_of_le hk o.size,h.cur.hl,fun j hj=>?_⟩,Ov.only h.ok o (fun q=>h.ok.a _ q h.dG),fun r=>zay r fun b e=>o.block b (r.lt b e).2 (by have:=(r.lt b e).1;omega)⟩
 ·rw[World.cell?_of_block (o.block c.K hk hn)];exact h.cur.c0
 ·rw[World.cell?_of_block (o.block c.K hk hn)];exact h.cur.c1
 ·rw[World.cell?_of_block (o.block c.K hk hn)];exact h.cur.c2
 ·rw[World.frozen?_of_block (o.block c.K hk hn)];exact h.cur.f1
 ·rw[World.frozen?_of_block (o.block c.K hk hn)];exact h.cur.f2
 ·obtain⟨bx,off,u,e1,e2,e3,e4⟩:=h.cur.bs j hj;exact⟨bx,off,u,e1,e2,by rw[World.cell?_of_block (o.block bx (by omega) (show bx≠c.G by omega))];exact e3,e4⟩
theorem zdn:∀ (l:List (Int × Int)) (n:Nat),(tyCells l).take (n*2)=tyCells (l.take n)
 | _,0=>by simp[tyCells]
 | [],n+1=>by simp[tyCells]
 | p::r,n+1=>by
  have e:tyCells (p::r)=[.int .i64 p.1,.int .i64 p.2]++tyCells r:=rfl;have e2:tyCells ((p::r).take (n+1))=[.int .i64 p.1,.int .i64 p.2]++tyCells (r.take n):=rfl;rw[e,e2,← zdn r n,show (n+1)*2=n*2+1+1 by omega];rfl
theorem Gs.cut {c:Dx}{g:GS}{w w':World}{v:Gv}(h:Gs c g w v) {na ta xa:Option Addr}{np tp xp n:Nat}(hn:n≤v.n) (e1:v.nv=.slice na v.n np) (e2:v.tv=.slice ta v.n tp) (e3:v.xv=.slice xa v.n xp) (o:OnlyK c.G w w') (hx:∃ nx lf:Int,Bxx w' c.G [.pointer (some ⟨c.K,0,none⟩),v.sv,v.fv,.slice na n np,.slice ta n tp,.slice xa n xp,.int .i64 nx,.int .i64 lf,.int .i64 v.rk,.int .i64 v.rn]):Gs c g w' { v with nv:=.slice na n np,tv:=.slice ta n tp,xv:=.slice xa n xp,n:=n }:=by
 obtain⟨hc,ov,hr⟩:=h.curG o;obtain⟨xf,f1,f2⟩:=h.fs;obtain⟨xn,n1,n2⟩:=h.nm;obtain⟨lt,t0,t1,t2⟩:=h.ty;obtain⟨lx,x1⟩:=h.fx;rw[e1]at n1;rw[e2]at t1;rw[e3]at x1;have n3:=row_cut (hr n1) hn;have t3:=row_cut (hr t1) hn;have x3:=row_cut (hr x1) hn;rw[zdn]at t3;rw[Nat.mul_one,← List.map_take]at x3;refine⟨h.ok.later o.size,hc,h.dK,h.dG,h.kg,hx,h.ss.sub ov.sub,h.sok,⟨xf,hr f1,ElS.sub ov.sub _ f2⟩,h.fok,⟨_,n3,fun u q=>(n2 u (List.mem_of_mem_take q)).sub ov.sub⟩,⟨lt.take n,by rw[List.length_take,t0];exact Nat.min_eq_left hn,t3,fun p q=>t2 p (List.mem_of_mem_take q)⟩,⟨lx.take n,x3⟩,h.df,fun b e=>h.dn b (by rw[e1,← ownB_cut na v.n n np];exact e),fun b e=>h.dt b (by rw[e2,← ownB_cut ta v.n n tp];exact e),fun b e=>h.dx b (by rw[e3,← ownB_cut xa v.n n xp];exact e),Nat.le_trans hn h.few,h.rr⟩
def Now (c:Dx) (v:Gv) (g:GS) (w:World) (n:Nat) (w':World):Prop:=∃ g' nv tv xv,Stp g w g' w'∧Gs c g' w' { v with nv:=nv,tv:=tv,xv:=xv,n:=n }
def NowP (c:Dx) (v:Gv) (g:GS) (w:World) (n:Nat) (e:Ending) (w':World):Prop:=∃ u,e=.returned u∧u=.tuple #[]∧Now c v g w n w'
theorem until_any {c:Dx}{g:GS}{w:World}{v:Gv}(h:Gs c g w v) (n:Nat) (hn:n≤v.n):Calls Tryz.prog 56 #[.pointer (some ⟨c.G,0,none⟩),.int .i64 (n:Int)] w (NowP c v g w n):=by
 obtain⟨⟨na,np,hnv⟩,⟨ta,tp,htv⟩,⟨xa,xp,hxv⟩,_⟩:=h.nvS;obtain⟨nx,lf,hb⟩:=h.box;obtain⟨nx,lf,_,_,_,c3,c4,c5,_,_,_,_,fz,hG⟩:=h.ten;have f3:=fz 3 (by decide);have f4:=fz 4 (by decide);have f5:=fz 5 (by decide);have hfew:=h.few;obtain⟨xn,n1,_⟩:=h.nm;obtain⟨lt,_,t1,_⟩:=h.ty;obtain⟨lx,x1⟩:=h.fx;rw[hnv]at n1 c3;rw[htv]at t1 c4;rw[hxv]at x1 c5;obtain⟨kn,kn2⟩:=zct n1;obtain⟨kt,kt2⟩:=zct t1;obtain⟨kx,kx2⟩:=zct x1;have o:=(((OnlyK.refl c.G w).set 3 (.slice na n np)).set 4 (.slice ta n tp)).set 5 (.slice xa n xp);have hb2:=((hb.set 3 (.slice na n np) (by simp)).set 4 (.slice ta n tp) (by simp)).set 5 (.slice xa n xp) (by simp)
 have HE:Hid (NowP c v g w n (.returned (.tuple #[])) (((w.setCell ⟨c.G,3,none⟩ (.slice na n np)).setCell ⟨c.G,4,none⟩ (.slice ta n tp)).setCell ⟨c.G,5,none⟩ (.slice xa n xp))):=⟨_,rfl,rfl,g,_,_,_,(Stp.refl g w).only o (.inr h.dG),h.cut hn hnv htv hxv o ⟨_,_,hb2⟩⟩
 have i1:(n:Int)≤(np:Int):=by omega
 have i2:(n:Int)≤(tp:Int):=by omega
 have i3:(n:Int)≤(xp:Int):=by omega
 clear o hb2 hb h n1 t1 x1 hnv htv hxv fz
 generalize NowP c v g w n=Q at *
 go_enter Tryz.func56,Tryz.ntmps56;go_wp2_with fail
 exact bodyPost_end (results_none rfl _ _ _) rfl HE.out
theorem NmS.row {g:GS}{w:World}{B:Nat}{v:Value}{zs:List Int}(h:w.ownsRow B 5 1 v zs.length (zs.map (Value.int .u8))) (hb:∀ j,isB (zs.getD j 0)) (hp:0<zs.length):∃ b,v.ownBlock=some b∧B≤b∧b<w.heap.size∧(g.S b→NmS (mask g w) v):=by
 rcases h.2 with ⟨_,e⟩|⟨b,cap,cur,e,h1,h2,h3,h4,h5,h6⟩
 ·omega
 ·have hr:=h;rw[e]at hr;have hlt:=(hr.lt b rfl).2;refine⟨b,by rw[e];rfl,h1,hlt,fun hS=>⟨zs,⟨some ⟨b,0,none⟩,cap,e,by unfold maxLen at h4;omega,hb,fun j hj=>⟨b,0,rfl,by rw[zbo];exact hlt,?_⟩⟩,_,cap,e,h3,h4⟩⟩;rw[Nat.zero_add];unfold World.cell?;rw[zbk _ _ _ hS];have hc:=hr.cellAt j (by omega);unfold World.cell? at hc;rw[hc,List.getElem?_map,List.getElem?_eq_getElem hj,List.getD_eq_getElem?_getD,List.getElem?_eq_getElem hj];rfl
theorem Gs.boxG {c:Dx}{g:GS}{w w':World}{v:Gv}(h:Gs c g w v) (o:OnlyK c.G w w') (hx:∃ nx lf:Int,Bxx w' c.G [.pointer (some ⟨c.K,0,none⟩),v.sv,v.fv,v.nv,v.tv,v.xv,.int .i64 nx,.int .i64 lf,.int .i64 v.rk,.int .i64 v.rn]):Gs c g w' v:=by
 have hkg:=h.kg;exact h.turn o.size (fun b hb q=>o.block b hb fun e=>by subst e;rcases q with q|q;(exact h.ok.a _ q h.dG);omega) (h.curG o).1 hx
theorem zcx {c:Dx}{g:GS}{w:World}{v:Gv}(h:Gs c g w v) (f:Int) (hf:isB f):Calls Tryz.prog 57 #[.pointer (some ⟨c.G,0,none⟩),.int .u8 f] w (AnsP c v g w NmS):=by
 obtain⟨i5,hi5,hz0,hz1,hz2⟩:=info_parts Tryz.info5;obtain⟨nx,lf,hb⟩:=h.box;have c6:=(hb.cell 6 _ rfl).1;have f6:=(hb.cell 6 _ rfl).2;have hG:=hb.lt;have o:=(OnlyK.refl c.G w).set 6 (.int .i64 (wrap64 (nx+1)));have k0:=h.boxG o ⟨_,_,hb.set 6 (.int .i64 (wrap64 (nx+1))) (by simp)⟩;have s0:=(Stp.refl g w).only o (.inr h.dG);obtain⟨w1,hw1⟩:=hidx ((w.setCell ⟨c.G,6,none⟩ (.int .i64 (wrap64 (nx+1)))).alloc (.cells #[.int .u8 f] 5));have l1:Later (w.setCell ⟨c.G,6,none⟩ (.int .i64 (wrap64 (nx+1)))) w1:=by rw[hw1.out];exact later1 _ _
 have r1:w1.ownsRow w.heap.size 5 1 (.slice (some ⟨w.heap.size,0,none⟩) 1 1) 1 [.int .u8 f]:=by
  have:=World.ownsRow_lit (base:=w.heap.size) (e:=5) (size:=1) (w.setCell ⟨c.G,6,none⟩ (.int .i64 (wrap64 (nx+1)))) #[.int .u8 f] 1 (by rw[World.size_setCell];exact Nat.le_refl _) (by unfold maxLen;omega) rfl;rw[World.size_setCell]at this;rw[hw1.out];exact this
 have hs1:Hid (w1.heap.size=w.heap.size+1):=by rw[hw1.out,World.size_alloc,World.size_setCell];exact rfl
 have hD:=dec_any (wrap64 (nx+1)) w1 (wrap64_inR _);have hlen:=zcz (wrap64 (nx+1));have hbb:=KL.decL_isB (wrap64 (nx+1))
 have HF:Hid (∀ w2 w3 v3,Later w1 w2→w3.ownsRow w.heap.size 5 1 v3 (1+(decL (wrap64 (nx+1))).length) ([.int .u8 f]++(decL (wrap64 (nx+1))).map (Value.int .u8))→w2.grownBy w3 (some w.heap.size)→AnsP c v g w NmS (.returned v3) w3):=fun w2 w3 v3 l2 o3 g3=>by
  have k2:=(k0.later l1).later l2;have hn:=h.new;have k3:=k2.grow g3 fun b e=>by cases e;exact hn
  have s3:=((s0.later l1).later l2).grow g3 fun b e=>by cases e;exact .inl (Nat.le_refl _)
  have o3':w3.ownsRow w.heap.size 5 1 v3 (f::decL (wrap64 (nx+1))).length ((f::decL (wrap64 (nx+1))).map (Value.int .u8)):=by
   rw[List.length_cons,Nat.add_comm];exact o3
  have hB:∀ j,isB ((f::decL (wrap64 (nx+1))).getD j 0):=fun j=>by
   cases j with
   | zero=>exact hf
   | succ j=>exact hbb j
  obtain⟨b,e,h1,h2,h3⟩:=NmS.row (g:=g.seal ((v3.ownBlock).getD 0)) o3' hB (by simp);rw[e]at h3;have hd:¬ g.D b:=fun q=>by have:=h.ok.d b q;omega
  exact⟨_,rfl,g.seal b,s3.seal h1,k3.seal h2 hd,h3 ((g.sealed b b).2 (.inr rfl))⟩
 generalize decL (wrap64 (nx+1))=ds at *
 generalize AnsP c v g w NmS=Q at *
 clear k0 s0 o h hb l1 hbb;go_enter Tryz.func57,Tryz.ntmps57;go_wp2_with fail
 rw[←hw1.out];clear hw1 c6 f6 hG;refine hD.mono ?_;rintro e w2 ⟨v2,rfl,o2,l2⟩;obtain⟨b2,q2,rfl,hb2,hl2,hc2⟩:=zat o2 hlen.1;have r2:=zay r1 (fun b e=>l2.block b (r1.lt b e).2);have hs2:w.heap.size≤w2.heap.size:=by have:=l2.size;have:=hs1.out;omega
 clear r1 hs1 hD;go_wp2_with (at_builtin;refine wpList_append_own _ rfl _ _ 22 rfl w.heap.size 5 i5 (.int .u8 0) 1 1 Tryz.underlying22 hi5 hz0 hz1 hz2 rfl (by decide) _ _ _ rfl r2 ⟨b2,0,none⟩ ds.length q2 (ds.map (Value.int .u8)) rfl (by rw[List.length_map,Nat.mul_one]) hc2 (zbe ds) (by unfold maxLen;omega) (by omega) hs2 ?_;intro v3 w3 o3 g3 _)
 exact HF.out _ _ _ l2 o3 g3
theorem zbp {w:World}{B1 B2:Nat}{e1 e2:TypeId}{k1 k2 n1 n2:Nat}{u1 u2:Value}{x1 x2:List Value}(h1:w.ownsRow B1 e1 k1 u1 n1 x1) (h2:w.ownsRow B2 e2 k2 u2 n2 x2) (he:e1≠e2):∀ b,u1.ownBlock=some b→u2.ownBlock≠some b:=by
 intro b q1 q2;obtain⟨c1,f1,a1⟩:=Go.Lib.ownsRow_kind h1 b q1;obtain⟨c2,f2,a2⟩:=Go.Lib.ownsRow_kind h2 b q2;rw[a1]at a2
 cases a2
 exact he rfl
def GS.dirtO (g:GS):Option Nat→GS
 | none=>g
 | some b=>g.dirt b
theorem dirtO_S (g:GS) (o:Option Nat):(g.dirtO o).S=g.S:=by cases o <;> rfl
theorem dirtO_D (g:GS) (o:Option Nat) (b:Nat):(g.dirtO o).D b↔g.D b∨o=some b:=by
 cases o with
 | none=>exact⟨.inl,fun q=>q.elim id fun e=>by cases e⟩
 | some x=>exact⟨fun q=>q.elim .inl fun e=>.inr (by rw[e]),fun q=>q.elim .inl fun e=>.inr (by cases e;rfl)⟩
structure Rs (c:Dx) (g0:GS) (w0:World) (v:Gv) (w:World) (nv tv xv:Value) (n1 n2 n3:Nat) (xn:List Value) (lt:List (Int × Int)) (lx:List Bool) (xf:List Value):Prop where
 os:w.os=w0.os
 tape:w.tape=w0.tape
 output:w.output=w0.output
 size:w0.heap.size≤w.heap.size
 block:∀ b,b<w0.heap.size→(¬ g0.D b∨b≤c.K)→w.heap[b]?=w0.heap[b]?
 box:∃ nx lf:Int,Bxx w c.G [.pointer (some ⟨c.K,0,none⟩),v.sv,v.fv,nv,tv,xv,.int .i64 nx,.int .i64 lf,.int .i64 v.rk,.int .i64 v.rn]
 rn:w.ownsRow (c.G+1) 22 1 nv n1 xn
 rt:w.ownsRow (c.G+1) 67 2 tv n2 (tyCells lt)
 rx:w.ownsRow (c.G+1) 4 1 xv n3 (lx.map Value.bool)
 rf:w.ownsRow (c.G+1) 73 5 v.fv v.fs.length xf
 dn:∀ b,nv.ownBlock=some b→g0.D b∨w0.heap.size≤b
 dt:∀ b,tv.ownBlock=some b→g0.D b∨w0.heap.size≤b
 dx:∀ b,xv.ownBlock=some b→g0.D b∨w0.heap.size≤b
 kg:c.K<c.G
 gl:c.G<w0.heap.size
 gd:g0.D c.G
theorem Rs.later {c:Dx}{g0:GS}{w0 w w':World}{v:Gv}{nv tv xv:Value}{n1 n2 n3:Nat}{xn:List Value}{lt:List (Int × Int)}{lx:List Bool}{xf:List Value}(h:Rs c g0 w0 v w nv tv xv n1 n2 n3 xn lt lx xf) (l:Later w w'):Rs c g0 w0 v w' nv tv xv n1 n2 n3 xn lt lx xf:=by
 obtain⟨nx,lf,hb⟩:=h.box;have hr:∀ {t:TypeId}{k:Nat}{u:Value}{n:Nat}{xs:List Value},w.ownsRow (c.G+1) t k u n xs→w'.ownsRow (c.G+1) t k u n xs:=fun r=>zay r fun b e=>l.block b (r.lt b e).2;exact⟨l.os.trans h.os,l.tape.trans h.tape,l.output.trans h.output,Nat.le_trans h.size l.size,fun b hl q=>(l.block b (Nat.lt_of_lt_of_le hl h.size)).trans (h.block b hl q),⟨nx,lf,hb.later l⟩,hr h.rn,hr h.rt,hr h.rx,hr h.rf,h.dn,h.dt,h.dx,h.kg,h.gl,h.gd⟩
theorem Rs.put {c:Dx}{g0:GS}{w0 w w2:World}{v:Gv}{nv tv xv:Value}{n1 n2 n3:Nat}{xn:List Value}{lt:List (Int × Int)}{lx:List Bool}{xf:List Value}(h:Rs c g0 w0 v w nv tv xv n1 n2 n3 xn lt lx xf) {o:Option Nat}(hg:w.grownBy w2 o) (ho:∀ b,o=some b→c.G+1≤b∧(g0.D b∨w0.heap.size≤b)) (i:Nat) (u:Value):(w2.setCell ⟨c.G,i,none⟩ u).os=w0.os∧(w2.setCell ⟨c.G,i,none⟩ u).tape=w0.tape∧(w2.setCell ⟨c.G,i,none⟩ u).output=w0.output∧w0.heap.size≤(w2.setCell ⟨c.G,i,none⟩ u).heap.size∧(∀ b,b<w0.heap.size→(¬ g0.D b∨b≤c.K)→(w2.setCell ⟨c.G,i,none⟩ u).heap[b]?=w0.heap[b]?)∧(∃ nx lf:Int,Bxx w2 c.G [.pointer (some ⟨c.K,0,none⟩),v.sv,v.fv,nv,tv,xv,.int .i64 nx,.int .i64 lf,.int .i64 v.rk,.int .i64 v.rn])∧(∀ {t:TypeId}{k:Nat}{z:Value}{n:Nat}{xs:List Value},w.ownsRow (c.G+1) t k z n xs→(∀ b,z.ownBlock=some b→o≠some b)→(w2.setCell ⟨c.G,i,none⟩ u).ownsRow (c.G+1) t k z n xs)∧(∀ {t:TypeId}{k:Nat}{z:Value}{n:Nat}{xs:List Value},w2.ownsRow (c.G+1) t k z n xs→(w2.setCell ⟨c.G,i,none⟩ u).ownsRow (c.G+1) t k z n xs):=by
 obtain⟨nx,lf,hb⟩:=h.box;have oG:=(OnlyK.refl c.G w2).set i u;have hkg:=h.kg;have hgl:=h.gl;have hsz:=h.size;refine⟨oG.os.trans (hg.os.trans h.os),oG.tape.trans (hg.tape.trans h.tape),oG.output.trans (hg.output.trans h.output),Nat.le_trans h.size (Nat.le_trans hg.size oG.size),fun b hl q=>?_,⟨nx,lf,hb.kept hg.size (hg.block _ hb.lt fun e=>by have:=(ho _ e.symm).1;omega)⟩,fun r hne=>?_,fun r=>?_⟩
 ·have hbl:=Nat.lt_of_lt_of_le hl h.size
  rw[oG.block b (Nat.lt_of_lt_of_le hbl hg.size) (fun e=>by subst e;rcases q with q|q;(exact q h.gd);omega),hg.block b hbl (fun e=>by
   obtain⟨z1,z2⟩:=ho b e.symm;rcases z2 with z2|z2
   ·rcases q with q|q
    ·exact q z2
    ·omega
   ·omega)]
  exact h.block b hl q
 ·exact zay r fun b e=>by rw[oG.block b (Nat.lt_of_lt_of_le (r.lt b e).2 hg.size) (by have:=(r.lt b e).1;omega),hg.block b (r.lt b e).2 (fun z=>hne b e z.symm)]
 ·exact zay r fun b e=>oG.block b (r.lt b e).2 (by have:=(r.lt b e).1;omega)
theorem Rs.pushN {c:Dx}{g0:GS}{w0 w w2:World}{v:Gv}{nv nv' tv xv:Value}{n1 n2 n3:Nat}{xn:List Value}{lt:List (Int × Int)}{lx:List Bool}{xf:List Value}(h:Rs c g0 w0 v w nv tv xv n1 n2 n3 xn lt lx xf) {u:Value}(o2:w2.ownsRow (c.G+1) 22 1 nv' (n1+1) (xn++[u])) (hg:w.grownBy w2 nv.ownBlock) (hl:nv'.ownBlock=nv.ownBlock∨nv'.ownBlock=some w.heap.size):(∃ nx lf:Int,Bxx w2 c.G [.pointer (some ⟨c.K,0,none⟩),v.sv,v.fv,nv,tv,xv,.int .i64 nx,.int .i64 lf,.int .i64 v.rk,.int .i64 v.rn])∧Rs c g0 w0 v (w2.setCell ⟨c.G,3,none⟩ nv') nv' tv xv (n1+1) n2 n3 (xn++[u]) lt lx xf:=by
 obtain⟨p1,p2,p3,p4,p5,⟨nx,lf,p6⟩,p7,p8⟩:=h.put hg (fun b e=>⟨(h.rn.lt b e).1,h.dn b e⟩) 3 nv';have hsz:=h.size;exact⟨⟨nx,lf,p6⟩,p1,p2,p3,p4,p5,⟨nx,lf,p6.set 3 nv' (by simp)⟩,p8 o2,p7 h.rt (fun b e q=>zbp h.rn h.rt (by decide) b q e),p7 h.rx (fun b e q=>zbp h.rn h.rx (by decide) b q e),p7 h.rf (fun b e q=>zbp h.rn h.rf (by decide) b q e),fun b e=>by rcases hl with z|z;(rw[z]at e;exact h.dn b e);(rw[z]at e;cases e;exact .inr hsz),h.dt,h.dx,h.kg,h.gl,h.gd⟩
theorem tyCells_app (l:List (Int × Int)) (p:Int × Int):tyCells (l++[p])=tyCells l++[.int .i64 p.1,.int .i64 p.2]:=by
 unfold tyCells;rw[List.flatMap_append];rfl
theorem Rs.pushT {c:Dx}{g0:GS}{w0 w w2:World}{v:Gv}{nv tv tv' xv:Value}{n1 n2 n3:Nat}{xn:List Value}{lt:List (Int × Int)}{lx:List Bool}{xf:List Value}(h:Rs c g0 w0 v w nv tv xv n1 n2 n3 xn lt lx xf) {k n:Int}(o2:w2.ownsRow (c.G+1) 67 2 tv' (n2+1) (tyCells lt++[.int .i64 k,.int .i64 n])) (hg:w.grownBy w2 tv.ownBlock) (hl:tv'.ownBlock=tv.ownBlock∨tv'.ownBlock=some w.heap.size):(∃ nx lf:Int,Bxx w2 c.G [.pointer (some ⟨c.K,0,none⟩),v.sv,v.fv,nv,tv,xv,.int .i64 nx,.int .i64 lf,.int .i64 v.rk,.int .i64 v.rn])∧Rs c g0 w0 v (w2.setCell ⟨c.G,4,none⟩ tv') nv tv' xv n1 (n2+1) n3 xn (lt++[(k,n)]) lx xf:=by
 obtain⟨p1,p2,p3,p4,p5,⟨nx,lf,p6⟩,p7,p8⟩:=h.put hg (fun b e=>⟨(h.rt.lt b e).1,h.dt b e⟩) 4 tv';have hsz:=h.size;exact⟨⟨nx,lf,p6⟩,p1,p2,p3,p4,p5,⟨nx,lf,p6.set 4 tv' (by simp)⟩,p7 h.rn (fun b e q=>zbp h.rt h.rn (by decide) b q e),by rw[tyCells_app];exact p8 o2,p7 h.rx (fun b e q=>zbp h.rt h.rx (by decide) b q e),p7 h.rf (fun b e q=>zbp h.rt h.rf (by decide) b q e),h.dn,fun b e=>by rcases hl with z|z;(rw[z]at e;exact h.dt b e);(rw[z]at e;cases e;exact .inr hsz),h.dx,h.kg,h.gl,h.gd⟩
theorem Rs.pushX {c:Dx}{g0:GS}{w0 w w2:World}{v:Gv}{nv tv xv xv':Value}{n1 n2 n3:Nat}{xn:List Value}{lt:List (Int × Int)}{lx:List Bool}{xf:List Value}(h:Rs c g0 w0 v w nv tv xv n1 n2 n3 xn lt lx xf) {t:Bool}(o2:w2.ownsRow (c.G+1) 4 1 xv' (n3+1) (lx.map Value.bool++[.bool t])) (hg:w.grownBy w2 xv.ownBlock) (hl:xv'.ownBlock=xv.ownBlock∨xv'.ownBlock=some w.heap.size):(∃ nx lf:Int,Bxx w2 c.G [.pointer (some ⟨c.K,0,none⟩),v.sv,v.fv,nv,tv,xv,.int .i64 nx,.int .i64 lf,.int .i64 v.rk,.int .i64 v.rn])∧Rs c g0 w0 v (w2.setCell ⟨c.G,5,none⟩ xv') nv tv xv' n1 n2 (n3+1) xn lt (lx++[t]) xf:=by
 obtain⟨p1,p2,p3,p4,p5,⟨nx,lf,p6⟩,p7,p8⟩:=h.put hg (fun b e=>⟨(h.rx.lt b e).1,h.dx b e⟩) 5 xv';have hsz:=h.size;exact⟨⟨nx,lf,p6⟩,p1,p2,p3,p4,p5,⟨nx,lf,p6.set 5 xv' (by simp)⟩,p7 h.rn (fun b e q=>zbp h.rx h.rn (by decide) b q e),p7 h.rt (fun b e q=>zbp h.rx h.rt (by decide) b q e),by rw[List.map_append];exact p8 o2,p7 h.rf (fun b e q=>zbp h.rx h.rf (by decide) b q e),h.dn,h.dt,fun b e=>by rcases hl with z|z;(rw[z]at e;exact h.dx b e);(rw[z]at e;cases e;exact .inr hsz),h.kg,h.gl,h.gd⟩
theorem Rs.start {c:Dx}{g:GS}{w:World}{v:Gv}(h:Gs c g w v):∃ xn lt lx xf,Rs c g w v w v.nv v.tv v.xv v.n v.n v.n xn lt lx xf∧(∀ u∈xn,NmS (mask g w) u)∧lt.length=v.n∧(∀ p∈lt,InR p.2)∧ElS (mask g w) 5 (Fu.dats v.fs) xf:=by
 obtain⟨xf,f1,f2⟩:=h.fs;obtain⟨xn,n1,n2⟩:=h.nm;obtain⟨lt,t0,t1,t2⟩:=h.ty;obtain⟨lx,x1⟩:=h.fx;exact⟨xn,lt,lx,xf,⟨rfl,rfl,rfl,Nat.le_refl _,fun _ _ _=>rfl,h.box,n1,t1,x1,f1,fun b e=>.inl (h.dn b e),fun b e=>.inl (h.dt b e),fun b e=>.inl (h.dx b e),h.kg,by obtain⟨_,_,hb⟩:=h.box;exact hb.lt,h.dG⟩,n2,t0,t2,f2⟩
theorem Rs.done {c:Dx}{g:GS}{w0 w:World}{v:Gv}(h0:Gs c g w0 v) {nv tv xv:Value}{n:Nat}{xn:List Value}{lt:List (Int × Int)}{lx:List Bool}{xf:List Value}(h:Rs c g w0 v w nv tv xv n n n xn lt lx xf) (hn:∀ u∈xn,NmS (mask g w0) u) (hl:lt.length=n) (ht:∀ p∈lt,InR p.2) (hf:ElS (mask g w0) 5 (Fu.dats v.fs) xf) (few:n≤1000000):Now c v g w0 n w:=by
 have hk:=h0.cur.hK;have hB:=h0.cur.hB;have hbK:w.heap[c.K]?=w0.heap[c.K]?:=h.block c.K hk (.inr (Nat.le_refl _));have hD:∀ b,(((g.dirtO nv.ownBlock).dirtO tv.ownBlock).dirtO xv.ownBlock).D b↔((g.D b∨nv.ownBlock=some b)∨tv.ownBlock=some b)∨xv.ownBlock=some b:=fun b=>by rw[dirtO_D,dirtO_D,dirtO_D]
 have hS:(((g.dirtO nv.ownBlock).dirtO tv.ownBlock).dirtO xv.ownBlock).S=g.S:=by rw[dirtO_S,dirtO_S,dirtO_S]
 generalize ((g.dirtO nv.ownBlock).dirtO tv.ownBlock).dirtO xv.ownBlock=g' at *
 have old:∀ b,g'.D b→g.D b∨w0.heap.size≤b:=fun b q=>by
  rcases (hD b).1 q with ((q|q)|q)|q
  ·exact .inl q
  ·exact h.dn b q
  ·exact h.dt b q
  ·exact h.dx b q
 have lt':∀ b,g'.D b→b<w.heap.size:=fun b q=>by
  rcases (hD b).1 q with ((q|q)|q)|q
  ·exact Nat.lt_of_lt_of_le (h0.ok.d b q) h.size
  ·exact (h.rn.lt b q).2
  ·exact (h.rt.lt b q).2
  ·exact (h.rx.lt b q).2
 have ov:Ov g w0 g' w:=⟨h.size,fun b q=>by rw[hS];exact q,fun b q=>h.block b (h0.ok.s b q) (.inl (h0.ok.a b q))⟩
 refine⟨g',nv,tv,xv,⟨h.os,h.tape,h.output,h.size,fun b q=>by rw[hS];exact q,fun b q=>(hD b).2 (.inl (.inl (.inl q))),fun b _ q=>by rw[hS]at q;exact q,fun b hb q=>(old b q).elim id fun z=>by omega,fun b hb q=>h.block b hb (.inl q)⟩,⟨⟨fun b q=>by rw[hS]at q;exact Nat.lt_of_lt_of_le (h0.ok.s b q) h.size,lt',fun b q z=>by
  rw[hS]at q;rcases old b z with z|z
  ·exact h0.ok.a b q z
  ·have:=h0.ok.s b q;omega⟩,?_,(hD _).2 (.inl (.inl (.inl h0.dK))),(hD _).2 (.inl (.inl (.inl h0.dG))),h0.kg,h.box,h0.ss.sub ov.sub,h0.sok,⟨xf,h.rf,ElS.sub ov.sub _ hf⟩,h0.fok,⟨xn,h.rn,fun u q=>(hn u q).sub ov.sub⟩,⟨lt,hl,h.rt,ht⟩,⟨lx,h.rx⟩,fun b e=>(hD b).2 (.inl (.inl (.inl (h0.df b e)))),fun b e=>(hD b).2 (.inl (.inl (.inr e))),fun b e=>(hD b).2 (.inl (.inr e)),fun b e=>(hD b).2 (.inr e),few,h0.rr⟩⟩
 refine⟨?_,?_,?_,?_,?_,hB,Nat.lt_of_lt_of_le hk h.size,h0.cur.hl,fun j hj=>?_⟩
 ·rw[World.cell?_of_block hbK];exact h0.cur.c0
 ·rw[World.cell?_of_block hbK];exact h0.cur.c1
 ·rw[World.cell?_of_block hbK];exact h0.cur.c2
 ·rw[World.frozen?_of_block hbK];exact h0.cur.f1
 ·rw[World.frozen?_of_block hbK];exact h0.cur.f2
 ·obtain⟨bx,off,u,e1,e2,e3,e4⟩:=h0.cur.bs j hj;exact⟨bx,off,u,e1,e2,by rw[World.cell?_of_block (h.block bx (by omega) (.inr (by omega)))];exact e3,e4⟩
theorem Tryz.underlying77:Tryz.prog.underlying 77=some (.slice 22):=by kernel_rfl
theorem Tryz.underlying78:Tryz.prog.underlying 78=some (.slice 67):=by kernel_rfl
theorem Tryz.underlying79:Tryz.prog.underlying 79=some (.slice 4):=by kernel_rfl
theorem Tryz.info67:(Tryz.prog.info? 67).map (fun i=>(i.zero,i.size,i.bytes))=some (some (.agg #[.int .i64 0,.int .i64 0]),2,16):=by kernel_rfl
theorem Tryz.info4:(Tryz.prog.info? 4).map (fun i=>(i.zero,i.size,i.bytes))=some (some (.bool false),1,1):=by kernel_rfl
theorem zdr {c:Dx}{g:GS}{w:World}{v:Gv}(h:Gs c g w v) (a0:Option Addr) (n0 c0:Nat) (hn:NmS (mask g w) (.slice a0 n0 c0)) (tk tn:Int) (ht:InR tn) (t:Bool) (few:v.n<1000000):Calls Tryz.prog 59 #[.pointer (some ⟨c.G,0,none⟩),.slice a0 n0 c0,.agg #[.int .i64 tk,.int .i64 tn],.bool t] w (NowP c v g w (v.n+1)):=by
 obtain⟨i0,hi0,hz00,hz01,hz02⟩:=info_parts Tryz.info22;obtain⟨i1,hi1,hz10,hz11,hz12⟩:=info_parts Tryz.info67;obtain⟨i2,hi2,hz20,hz21,hz22⟩:=info_parts Tryz.info4;obtain⟨⟨na,np,hnv⟩,⟨ta,tp,htv⟩,⟨xa,xp,hxv⟩,_⟩:=h.nvS;obtain⟨w1,hw1⟩:=hidx (w.alloc (.cells #[.int .i64 tk,.int .i64 tn] 67));have l1:Later w w1:=by rw[hw1.out];exact later1 _ _
 have h1:=h.later l1;have bT:Bxx w1 w.heap.size [.int .i64 tk,.int .i64 tn]:=by rw[hw1.out];exact Bxx.new _ _ _
 have hTD:¬ g.D w.heap.size:=h.new.2.1;have hGl:c.G<w.heap.size:=h.new.2.2;obtain⟨xn,lt,lx,xf,R1,q1,q2,q3,q4⟩:=Rs.start h1
 have HFin:Hid (∀ w' nv' tv' xv',Rs c g w1 v w' nv' tv' xv' (v.n+1) (v.n+1) (v.n+1) (xn++[.slice a0 n0 c0]) (lt++[(tk,tn)]) (lx++[t]) xf→NowP c v g w (v.n+1) (.returned (.tuple #[])) w'):=fun w' nv' tv' xv' R=>by
  obtain⟨g',a,b,d,s,k⟩:=R.done h1 (fun u q=>by
   rcases List.mem_append.1 q with z|z
   ·exact q1 u z
   ·rw[List.mem_singleton.1 z];exact hn.sub (Ov.later h.ok l1).sub) (by rw[List.length_append,q2];rfl) (fun p q=>by
   rcases List.mem_append.1 q with z|z
   ·exact q3 p z
   ·rw[List.mem_singleton.1 z];exact ht) q4 (by omega)
  exact⟨_,rfl,rfl,g',a,b,d,((Stp.refl g w).later l1).trans s,k⟩
 rw[hnv,htv,hxv]at R1;have R:Hid (Rs c g w1 v w1 (.slice na v.n np) (.slice ta v.n tp) (.slice xa v.n xp) v.n v.n v.n xn lt lx xf):=R1
 have HT:Hid (∀ w' nv' tv' xv' n1 n2 n3 xn' lt' lx',Rs c g w1 v w' nv' tv' xv' n1 n2 n3 xn' lt' lx' xf→w'.cell? ⟨w.heap.size,0,none⟩=some (.int .i64 tk)∧w'.cell? ⟨w.heap.size,1,none⟩=some (.int .i64 tn)):=fun w' _ _ _ _ _ _ _ _ _ r=>by
  have hb:=r.block _ bT.lt (.inl hTD);exact⟨by rw[World.cell?_of_block hb];exact (bT.cell 0 _ rfl).1,by rw[World.cell?_of_block hb];exact (bT.cell 1 _ rfl).1⟩
 have hlen:=R1.rf.1;obtain⟨nx,lf,_,_,_,cG3,_⟩:=h.ten;rw[hnv]at cG3;have hbase:c.G+1≤w1.heap.size:=by have:=l1.size;omega
 clear R1 q1 q2 q3 q4 h1 h hn hnv htv hxv hlen
 generalize NowP c v g w (v.n+1)=Q at *
 generalize v.n=N at *
 go_enter Tryz.func59,Tryz.ntmps59;go_upto_region 1 with fail
 rw[←hw1.out];clear hw1 cG3;obtain⟨nx1,lf1,b1⟩:=R.out.box;obtain⟨c13,f13⟩:=b1.cell 3 _ rfl;have b1l:=b1.lt;go_wp2_with (at_builtin;refine wpList_append_own_at _ rfl _ _ 77 rfl (c.G+1) 22 i0 (.slice none 0 0) 1 24 Tryz.underlying77 hi0 hz00 hz01 hz02 rfl (by decide) _ _ _ rfl (R.out.rn.alloc _) _ 1 1 [.slice a0 n0 c0] rfl rfl (zao _ _ _ (by simp)) (by simp[Value.oneCell']) (by unfold maxLen;omega) (by omega) (Nat.le_trans hbase (later1 _ _).size) ?_;intro v9 w9 o9 g9 _ h9;obtain⟨⟨nx9,lf9,b9⟩,R9⟩:=(R.out.later (later1 _ _)).pushN o9 g9 h9;obtain⟨a9,p9,hv9⟩:=zac o9;subst hv9;obtain⟨c93,f93⟩:=b9.cell 3 _ rfl;have b9l:=b9.lt)
 have R3:Hid _:=R9;clear R9 b9 c93 f93 b9l o9 g9 h9 b1 c13 f13 b1l R;have hb3:c.G+1≤(w9.setCell ⟨c.G,3,none⟩ (.slice a9 (N+1) p9)).heap.size:=Nat.le_trans hbase R3.out.size
 generalize w9.setCell ⟨c.G,3,none⟩ (.slice a9 (N+1) p9)=w3 at *
 obtain⟨t0,t1⟩:=HT.out _ _ _ _ _ _ _ _ _ _ R3.out;obtain⟨nx3,lf3,b3⟩:=R3.out.box;obtain⟨c34,f34⟩:=b3.cell 4 _ rfl;have b3l:=b3.lt;go_region_law (refine zae rfl _ _ 78 rfl (c.G+1) 67 i1 (.agg #[.int .i64 0,.int .i64 0]) 2 16 Tryz.underlying78 hi1 hz10 hz11 hz12 rfl (by decide) _ _ _ rfl ((R3.out.later ((Later.drew _).trans (later1 _ _))).rt) _ 1 1 [.int .i64 tk,.int .i64 tn] rfl rfl (zao _ _ _ (by simp)) (by simp[Value.oneCell']) (by unfold maxLen;omega) (by omega) (Nat.le_trans hb3 ((Later.drew _).trans (later1 _ _)).size) ?_;intro v12 w12 o12 g12 h12;obtain⟨⟨nx12,lf12,b12⟩,R12⟩:=(R3.out.later ((Later.drew _).trans (later1 _ _))).pushT o12 g12 h12;obtain⟨a12,p12,hv12⟩:=zac o12;subst hv12;obtain⟨c124,f124⟩:=b12.cell 4 _ rfl;have b12l:=b12.lt)
 all_goals
  have R5:Hid _:=R12;clear R12 b12 c124 f124 b12l o12 g12 h12 b3 c34 f34 b3l R3 t0 t1;have hb5:c.G+1≤(w12.setCell ⟨c.G,4,none⟩ (.slice a12 (N+1) p12)).heap.size:=Nat.le_trans hbase R5.out.size
  generalize w12.setCell ⟨c.G,4,none⟩ (.slice a12 (N+1) p12)=w5 at *
  obtain⟨nx5,lf5,b5⟩:=R5.out.box;obtain⟨c55,f55⟩:=b5.cell 5 _ rfl;have b5l:=b5.lt;go_wp2_with (at_builtin;refine wpList_append_own_at _ rfl _ _ 79 rfl (c.G+1) 4 i2 (.bool false) 1 1 Tryz.underlying79 hi2 hz20 hz21 hz22 rfl (by decide) _ _ _ rfl (R5.out.rx.alloc _) _ 1 1 [.bool t] rfl rfl (zao _ _ _ (by simp)) (by simp[Value.oneCell']) (by unfold maxLen;omega) (by omega) (Nat.le_trans hb5 (later1 _ _).size) ?_;intro v16 w16 o16 g16 _ h16;obtain⟨⟨nx16,lf16,b16⟩,R16⟩:=(R5.out.later (later1 _ _)).pushX o16 g16 h16;obtain⟨a16,p16,hv16⟩:=zac o16;subst hv16;obtain⟨c165,f165⟩:=b16.cell 5 _ rfl;have b16l:=b16.lt;have R17:Hid _:=R16)
  exact bodyPost_end (results_none rfl _ _ _) rfl (HFin.out _ _ _ _ R17.out)
end Go.Proofs.YtgholpilmdebmaaGreatDoor
