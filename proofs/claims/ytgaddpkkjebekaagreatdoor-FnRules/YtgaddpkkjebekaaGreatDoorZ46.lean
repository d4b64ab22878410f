import Derived.Test.YtgaddpkkjebekaaGreatDoorZ45
set_option maxHeartbeats 100000000
set_option maxRecDepth 100000
namespace Go.Proofs.YtgaddpkkjebekaaGreatDoor
open Go.RowKit Go.Maps
theorem oL {E:ak}{TX:Nat->Value}{TB:Nat->List Nat}{en:Int}{S:List Sc}{K:Nat}{tv sv fv:Value}{w:World}{i i':Nat}(h:Pz E TX TB en S K tv sv fv w i) {P:Program}{fn:Nat}{args:Array Value}{r:PR St}(H:Calls P fn args w (PcP E TX TB en S K tv sv fv w r (gU TB w.heap.size i'))) {x:St}{j:Nat}(q:r=.ok (x,j)):Calls P fn args w fun e w'=>∃ a0 n0 c0 a1 n1 c1 a2 n2 c2 a3 n3 c3 F,e=.returned (.agg #[.int .i64 x.kind,.int .i64 x.n,.int .i64 x.tk,.int .i64 x.tn,.slice a0 n0 c0,.slice a1 n1 c1,.slice a2 n2 c2,.slice a3 n3 c3])/\af K w w'/\Pz E TX TB en S K tv sv fv w' j/\ai w' x.dat [.int .i64 x.kind,.int .i64 x.n,.int .i64 x.tk,.int .i64 x.tn,.slice a0 n0 c0,.slice a1 n1 c1,.slice a2 n2 c2,.slice a3 n3 c3] F/\aJ TB w.heap.size i' j F :=
 H.mono fun _ _ r=>by
  obtain⟨v,e1,p,u0,u1,u2,u3,F,e2,o,fp⟩:=r.well x j q;obtain⟨a0,n0,c0,a1,n1,c1,a2,n2,c2,a3,n3,c3,rfl,rfl,rfl,rfl⟩:=KY o;exact⟨a0,n0,c0,a1,n1,c1,a2,n2,c2,a3,n3,c3,F,by rw[e1,e2],r.only,h.go r.only p,o,fp⟩
theorem UH {E:ak}{f i:Nat}(q:E.txt i=[118,97,114]):pS E (f+1) i=wF E (i+1):=by rw[pS,if_pos q];rfl
theorem pS_if {E:ak}{f i:Nat}(q:E.txt i=[105,102]):pS E (f+1) i=Fa E f (i+1):=by rw[pS,if_neg (by rw[q];decide),if_pos q];rfl
theorem UI {E:ak}{f i:Nat}(q:E.txt i=[102,111,114]):pS E (f+1) i=yG E f (i+1):=by rw[pS,if_neg (by rw[q];decide),if_neg (by rw[q];decide),if_pos q];rfl
theorem LQ {E:ak}{f i:Nat}(q:E.txt i=[114,101,116,117,114,110]):pS E (f+1) i=yD E f (i+1):=by rw[pS,if_neg (by rw[q];decide),if_neg (by rw[q];decide),if_neg (by rw[q];decide),if_pos q];rfl
theorem Ov {E:ak}{f i:Nat}(q:E.txt i=[112,114,105,110,116]):pS E (f+1) i=PR.andThen (pE E f (i+1)) fun c i=>gI E 5 [c] i:=by rw[pS,if_neg (by rw[q];decide),if_neg (by rw[q];decide),if_neg (by rw[q];decide),if_neg (by rw[q];decide),if_pos q]
theorem Ox {E:ak}{f i:Nat}(q:E.txt i=[112,97,110,105,99]):pS E (f+1) i=PR.andThen (pE E f (i+1)) fun c i=>gI E 6 [c] i:=by rw[pS,if_neg (by rw[q];decide),if_neg (by rw[q];decide),if_neg (by rw[q];decide),if_neg (by rw[q];decide),if_neg (by rw[q];decide),if_pos q]
theorem pS_do {E:ak}{f i:Nat}(q:E.txt i=[100,111]):pS E (f+1) i=Ff E f (i+1):=by rw[pS,if_neg (by rw[q];decide),if_neg (by rw[q];decide),if_neg (by rw[q];decide),if_neg (by rw[q];decide),if_neg (by rw[q];decide),if_neg (by rw[q];decide),if_pos q];rfl
theorem Rz {E:ak}{f i:Nat}(q0:E.txt i≠[118,97,114]) (q1:E.txt i≠[105,102]) (q2:E.txt i≠[102,111,114]) (q3:E.txt i≠[114,101,116,117,114,110]) (q4:E.txt i≠[112,114,105,110,116]) (q5:E.txt i≠[112,97,110,105,99]) (q6:E.txt i≠[100,111]):pS E (f+1) i=yC E f i:=by rw[pS,if_neg q0,if_neg q1,if_neg q2,if_neg q3,if_neg q4,if_neg q5,if_neg q6];rfl
theorem Uu {f:Nat}(HB:BkC f):StC (f+1):=by
 intro E TX TB en S K tv sv fv w i h hf;have HNo:Hid (∀ k w',pS E (f+1) i=.error k->af K w w'->PcP E TX TB en S K tv sv fv w (pS E (f+1) i) (gU TB w.heap.size i) (.panicked [{ v:=.iface 36 (.int .i64 (E.pos en k)),recovered:=false }]) w'):=fun k w' e o=>PcP.no e o
 generalize hr:pS E (f+1) i=r at *
 have HR:Hid _:=hr;clear hr;obtain⟨wa,hwa⟩:=hidx (w.alloc (.cells #[.int .i64 0,.int .i64 0,.int .i64 0,.int .i64 0,.slice none 0 0,.slice none 0 0,.slice none 0 0,.slice none 0 0] 110));have la:Later w wa:=by rw[hwa.out];exact ae _ _
 have ha:=h.later la;have hbx:Bxx wa w.heap.size [.int .i64 0,.int .i64 0,.int .i64 0,.int .i64 0,.slice none 0 0,.slice none 0 0,.slice none 0 0,.slice none 0 0]:=by rw[hwa.out];exact Bxx.new _ _ _
 have hs:=hbx.lt;have oa:af K w wa:=af.of_later la;have hKl:=h.ps.box.lt;have hK:w.heap.size≠K:=by omega
 go_enter Tryz.func76,Tryz.ntmps76;go_wp2_with fail
 rw[<-hwa.out];by_cases q0:E.txt i=[118,97,114]
 ·have hil:=ak.aX (E:=E) (i:=i) (by rw[q0];decide);refine (bG ha.ps _ _ JR (by decide) q0).mono ?_;rintro e wy ⟨rfl,oy,py⟩;have hy:=ha.go oy py;have ow:=oa.trans oy;have by_:=hbx.only oy hK;have sy:=by_.lt;have hrr:=(UH (f:=f) q0).symm.trans HR.out;clear HR;go_wp2_with fail
  cases qb:wF E (i+1) with
  | error k =>
   refine (kT (AA E TX TB en S K tv sv fv wy (i+1) hy) qb).mono ?_;rintro e wz ⟨rfl,o9⟩;have HZ:=HNo.out _ wz (by rw[<-hrr,qb]) (ow.trans o9);go_wp2_with fail
   exact⟨rfl,HZ⟩
  | ok y =>
   obtain⟨x,j⟩:=y;refine (oL hy (AA E TX TB en S K tv sv fv wy (i+1) hy) qb).mono ?_;rintro e wz ⟨a0,n0,c0,a1,n1,c1,a2,n2,c2,a3,n3,c3,F,rfl,oz,hz,hoz,fz⟩;obtain⟨W,hW,hXW,HZ⟩:=uX (r:=r) h (by rw[<-hrr,qb]) (ow.trans oz) hz.ps (by_.only oz hK) hoz (fz.behind (by omega) (Nat.le_succ _));obtain⟨⟨⟨x0,f0⟩,⟨x1,f1⟩,⟨x2,f2⟩,⟨x3,f3⟩,⟨x4,f4⟩,⟨x5,f5⟩,⟨x6,f6⟩,⟨x7,f7⟩⟩,xl⟩:=(by_.only oz hK).eight;obtain⟨⟨⟨e0,_⟩,⟨e1,_⟩,⟨e2,_⟩,⟨e3,_⟩,⟨e4,_⟩,⟨e5,_⟩,⟨e6,_⟩,⟨e7,_⟩⟩,_⟩:=hXW.eight
   generalize PcP E TX TB en S K tv sv fv w r (gU TB w.heap.size i)=Q at *
   clear HNo hXW HB hoz fz hrr qb;go_wp2_with fail
   rw[<-hW.out];exact bodyPost_ret (v:=.agg #[.int .i64 x.kind,.int .i64 x.n,.int .i64 x.tk,.int .i64 x.tn,.slice a0 n0 c0,.slice a1 n1 c1,.slice a2 n2 c2,.slice a3 n3 c3]) (by simp[results,Tryz.results76,go_sem,e0,e1,e2,e3,e4,e5,e6,e7]) rfl HZ.out
 refine (bT ha.ps _ _ JR (by decide) q0).mono ?_;rintro e v0 ⟨rfl,o0_,p0_⟩;have h0_:=ha.go o0_ p0_;have u0_:=oa.trans o0_;have b0_:=hbx.only o0_ hK;go_wp2_with fail
 by_cases q1:E.txt i=[105,102]
 ·have hil:=ak.aX (E:=E) (i:=i) (by rw[q1];decide);refine (bG h0_.ps _ _ O0 (by decide) q1).mono ?_;rintro e wy ⟨rfl,oy,py⟩;have hy:=h0_.go oy py;have ow:=u0_.trans oy;have by_:=b0_.only oy hK;have sy:=by_.lt;have hrr:=(pS_if (f:=f) q1).symm.trans HR.out;clear HR;go_wp2_with fail
  cases qb:Fa E f (i+1) with
  | error k =>
   refine (kT (Df HB E TX TB en S K tv sv fv wy (i+1) hy (by omega)) qb).mono ?_;rintro e wz ⟨rfl,o9⟩;have HZ:=HNo.out _ wz (by rw[<-hrr,qb]) (ow.trans o9);go_wp2_with fail
   exact⟨rfl,HZ⟩
  | ok y =>
   obtain⟨x,j⟩:=y;refine (oL hy (Df HB E TX TB en S K tv sv fv wy (i+1) hy (by omega)) qb).mono ?_;rintro e wz ⟨a0,n0,c0,a1,n1,c1,a2,n2,c2,a3,n3,c3,F,rfl,oz,hz,hoz,fz⟩;obtain⟨W,hW,hXW,HZ⟩:=uX (r:=r) h (by rw[<-hrr,qb]) (ow.trans oz) hz.ps (by_.only oz hK) hoz (fz.behind (by omega) (Nat.le_succ _));obtain⟨⟨⟨x0,f0⟩,⟨x1,f1⟩,⟨x2,f2⟩,⟨x3,f3⟩,⟨x4,f4⟩,⟨x5,f5⟩,⟨x6,f6⟩,⟨x7,f7⟩⟩,xl⟩:=(by_.only oz hK).eight;obtain⟨⟨⟨e0,_⟩,⟨e1,_⟩,⟨e2,_⟩,⟨e3,_⟩,⟨e4,_⟩,⟨e5,_⟩,⟨e6,_⟩,⟨e7,_⟩⟩,_⟩:=hXW.eight
   generalize PcP E TX TB en S K tv sv fv w r (gU TB w.heap.size i)=Q at *
   clear HNo hXW HB hoz fz hrr qb;go_wp2_with fail
   rw[<-hW.out];exact bodyPost_ret (v:=.agg #[.int .i64 x.kind,.int .i64 x.n,.int .i64 x.tk,.int .i64 x.tn,.slice a0 n0 c0,.slice a1 n1 c1,.slice a2 n2 c2,.slice a3 n3 c3]) (by simp[results,Tryz.results76,go_sem,e0,e1,e2,e3,e4,e5,e6,e7]) rfl HZ.out
 refine (bT h0_.ps _ _ O0 (by decide) q1).mono ?_;rintro e v1 ⟨rfl,o1_,p1_⟩;have h1_:=h0_.go o1_ p1_;have u1_:=u0_.trans o1_;have b1_:=b0_.only o1_ hK;go_wp2_with fail
 by_cases q2:E.txt i=[102,111,114]
 ·have hil:=ak.aX (E:=E) (i:=i) (by rw[q2];decide);refine (bG h1_.ps _ _ JW (by decide) q2).mono ?_;rintro e wy ⟨rfl,oy,py⟩;have hy:=h1_.go oy py;have ow:=u1_.trans oy;have by_:=b1_.only oy hK;have sy:=by_.lt;have hrr:=(UI (f:=f) q2).symm.trans HR.out;clear HR;go_wp2_with fail
  cases qb:yG E f (i+1) with
  | error k =>
   refine (kT (AP HB E TX TB en S K tv sv fv wy (i+1) hy (by omega)) qb).mono ?_;rintro e wz ⟨rfl,o9⟩;have HZ:=HNo.out _ wz (by rw[<-hrr,qb]) (ow.trans o9);go_wp2_with fail
   exact⟨rfl,HZ⟩
  | ok y =>
   obtain⟨x,j⟩:=y;refine (oL hy (AP HB E TX TB en S K tv sv fv wy (i+1) hy (by omega)) qb).mono ?_;rintro e wz ⟨a0,n0,c0,a1,n1,c1,a2,n2,c2,a3,n3,c3,F,rfl,oz,hz,hoz,fz⟩;obtain⟨W,hW,hXW,HZ⟩:=uX (r:=r) h (by rw[<-hrr,qb]) (ow.trans oz) hz.ps (by_.only oz hK) hoz (fz.behind (by omega) (Nat.le_succ _));obtain⟨⟨⟨x0,f0⟩,⟨x1,f1⟩,⟨x2,f2⟩,⟨x3,f3⟩,⟨x4,f4⟩,⟨x5,f5⟩,⟨x6,f6⟩,⟨x7,f7⟩⟩,xl⟩:=(by_.only oz hK).eight;obtain⟨⟨⟨e0,_⟩,⟨e1,_⟩,⟨e2,_⟩,⟨e3,_⟩,⟨e4,_⟩,⟨e5,_⟩,⟨e6,_⟩,⟨e7,_⟩⟩,_⟩:=hXW.eight
   generalize PcP E TX TB en S K tv sv fv w r (gU TB w.heap.size i)=Q at *
   clear HNo hXW HB hoz fz hrr qb;go_wp2_with fail
   rw[<-hW.out];exact bodyPost_ret (v:=.agg #[.int .i64 x.kind,.int .i64 x.n,.int .i64 x.tk,.int .i64 x.tn,.slice a0 n0 c0,.slice a1 n1 c1,.slice a2 n2 c2,.slice a3 n3 c3]) (by simp[results,Tryz.results76,go_sem,e0,e1,e2,e3,e4,e5,e6,e7]) rfl HZ.out
 refine (bT h1_.ps _ _ JW (by decide) q2).mono ?_;rintro e v2 ⟨rfl,o2_,p2_⟩;have h2_:=h1_.go o2_ p2_;have u2_:=u1_.trans o2_;have b2_:=b1_.only o2_ hK;go_wp2_with fail
 by_cases q3:E.txt i=[114,101,116,117,114,110]
 ·have hil:=ak.aX (E:=E) (i:=i) (by rw[q3];decide);refine (bG h2_.ps _ _ Ai (by decide) q3).mono ?_;rintro e wy ⟨rfl,oy,py⟩;have hy:=h2_.go oy py;have ow:=u2_.trans oy;have by_:=b2_.only oy hK;have sy:=by_.lt;have hrr:=(LQ (f:=f) q3).symm.trans HR.out;clear HR;go_wp2_with fail
  cases qb:yD E f (i+1) with
  | error k =>
   refine (kT (AC (f:=f) E TX TB en S K tv sv fv wy (i+1) hy (by omega)) qb).mono ?_;rintro e wz ⟨rfl,o9⟩;have HZ:=HNo.out _ wz (by rw[<-hrr,qb]) (ow.trans o9);go_wp2_with fail
   exact⟨rfl,HZ⟩
  | ok y =>
   obtain⟨x,j⟩:=y;refine (oL hy (AC (f:=f) E TX TB en S K tv sv fv wy (i+1) hy (by omega)) qb).mono ?_;rintro e wz ⟨a0,n0,c0,a1,n1,c1,a2,n2,c2,a3,n3,c3,F,rfl,oz,hz,hoz,fz⟩;obtain⟨W,hW,hXW,HZ⟩:=uX (r:=r) h (by rw[<-hrr,qb]) (ow.trans oz) hz.ps (by_.only oz hK) hoz (fz.behind (by omega) (Nat.le_succ _));obtain⟨⟨⟨x0,f0⟩,⟨x1,f1⟩,⟨x2,f2⟩,⟨x3,f3⟩,⟨x4,f4⟩,⟨x5,f5⟩,⟨x6,f6⟩,⟨x7,f7⟩⟩,xl⟩:=(by_.only oz hK).eight;obtain⟨⟨⟨e0,_⟩,⟨e1,_⟩,⟨e2,_⟩,⟨e3,_⟩,⟨e4,_⟩,⟨e5,_⟩,⟨e6,_⟩,⟨e7,_⟩⟩,_⟩:=hXW.eight
   generalize PcP E TX TB en S K tv sv fv w r (gU TB w.heap.size i)=Q at *
   clear HNo hXW HB hoz fz hrr qb;go_wp2_with fail
   rw[<-hW.out];exact bodyPost_ret (v:=.agg #[.int .i64 x.kind,.int .i64 x.n,.int .i64 x.tk,.int .i64 x.tn,.slice a0 n0 c0,.slice a1 n1 c1,.slice a2 n2 c2,.slice a3 n3 c3]) (by simp[results,Tryz.results76,go_sem,e0,e1,e2,e3,e4,e5,e6,e7]) rfl HZ.out
 refine (bT h2_.ps _ _ Ai (by decide) q3).mono ?_;rintro e v3 ⟨rfl,o3_,p3_⟩;have h3_:=h2_.go o3_ p3_;have u3_:=u2_.trans o3_;have b3_:=b2_.only o3_ hK;go_wp2_with fail
 by_cases q4:E.txt i=[112,114,105,110,116]
 ·have hil:=ak.aX (E:=E) (i:=i) (by rw[q4];decide);refine (bG h3_.ps _ _ CO (by decide) q4).mono ?_;rintro e wy ⟨rfl,oy,py⟩;have hy:=h3_.go oy py;have ow:=u3_.trans oy;have by_:=b3_.only oy hK;have sy:=by_.lt;have hrr:=(Ov (f:=f) q4).symm.trans HR.out;clear HR;go_wp2_with fail
  cases q9:pE E f (i+1) with
  | error k =>
   refine (rP hy (by omega) q9).mono ?_;rintro e w1 ⟨rfl,o9⟩;have HZ:=HNo.out _ w1 (by rw[<-hrr,q9];rfl) (ow.trans o9);go_wp2_with fail
   exact⟨rfl,HZ⟩
  | ok y =>
   obtain⟨c,j⟩:=y;have hadv:=(gX h.fit f).1 _ _ _ q9;refine (mF hy (by omega) q9).mono ?_;rintro e w1 ⟨a0,n0,c0,a1,n1,c1,F,rfl,o1,h1,ho,fp⟩;have s1:=o1.size;have hlF:=ai.lt _ ho;obtain⟨wk,hwk⟩:=hidx (w1.alloc (.cells #[.int .i64 c.kind,.int .i64 c.n,.int .i64 c.tk,.int .i64 c.tn,.slice a0 n0 c0,.slice a1 n1 c1] 148));have lk:Later w1 wk:=by rw[hwk.out];exact ae _ _
   have hkids:ai wk (.list 6 (Ex.ah [c])) [.slice (some ⟨w1.heap.size,0,none⟩) 1 1] (w1.heap.size::F):=by rw[hwk.out];exact sS ho
   have hk:=h1.later lk;have ok:=(ow.trans o1).trans (af.of_later lk);have bk:=(by_.only o1 hK).later lk;have fk:aJ TB (w.heap.size+1) i j (w1.heap.size::F):=aJ.cons (fp.mono (by omega) (Nat.le_succ _) (Nat.le_refl _)) hlF (by omega);have hKk:K∉w1.heap.size::F:=fk.iy (by omega) h.kt;have hr3:gI E 5 [c] j=r:=by rw[<-hrr,q9];rfl
   clear hrr q9 ho;go_wp2_with fail
   rw[<-hwk.out];by_cases q9:E.txt j=[59]
   ·refine (tu hk 5 (some ⟨w1.heap.size,0,none⟩) 1 1 q9).mono ?_;rintro e w9 ⟨rfl,o9,h9⟩;obtain⟨W,hW,hXW,HZ⟩:=kz (r:=r) (j:=j+1) (kd:=5) (n:=0) (tk:=0) (tn:=0) (nm:=[]) (ks:=[c]) (bs:=[]) (es:=[]) (F0:=[]) (F2:=[]) (F3:=[]) h (by rw[<-hr3];exact jP q9) (ok.trans o9) h9.ps (bk.only o9 hK) (gu _) (aI hkids o9 hKk) (iV _) (iV _) (by rw[List.nil_append,List.append_nil,List.append_nil];exact fk.mono (Nat.le_refl _) (Nat.le_refl _) (Nat.le_succ _));obtain⟨⟨⟨x0,f0⟩,⟨x1,f1⟩,⟨x2,f2⟩,⟨x3,f3⟩,⟨x4,f4⟩,⟨x5,f5⟩,⟨x6,f6⟩,⟨x7,f7⟩⟩,xl⟩:=(bk.only o9 hK).eight;obtain⟨⟨⟨e0,_⟩,⟨e1,_⟩,⟨e2,_⟩,⟨e3,_⟩,⟨e4,_⟩,⟨e5,_⟩,⟨e6,_⟩,⟨e7,_⟩⟩,_⟩:=hXW.eight
    generalize PcP E TX TB en S K tv sv fv w r (gU TB w.heap.size i)=Q at *
    clear HNo hXW HB hr3;go_wp2_with fail
    rw[<-hW.out];exact bodyPost_ret (v:=.agg #[.int .i64 5,.int .i64 0,.int .i64 0,.int .i64 0,.slice none 0 0,.slice (some ⟨w1.heap.size,0,none⟩) 1 1,.slice none 0 0,.slice none 0 0]) (by simp[results,Tryz.results76,go_sem,e0,e1,e2,e3,e4,e5,e6,e7]) rfl HZ.out
   ·refine (yt hk 5 (some ⟨w1.heap.size,0,none⟩) 1 1 q9).mono ?_;rintro e w9 ⟨rfl,o9⟩;have HZ:=HNo.out _ w9 (by rw[<-hr3];exact oM q9) (ok.trans o9);go_wp2_with fail
    exact⟨rfl,HZ⟩
 refine (bT h3_.ps _ _ CO (by decide) q4).mono ?_;rintro e v4 ⟨rfl,o4_,p4_⟩;have h4_:=h3_.go o4_ p4_;have u4_:=u3_.trans o4_;have b4_:=b3_.only o4_ hK;go_wp2_with fail
 by_cases q5:E.txt i=[112,97,110,105,99]
 ·have hil:=ak.aX (E:=E) (i:=i) (by rw[q5];decide);refine (bG h4_.ps _ _ CP (by decide) q5).mono ?_;rintro e wy ⟨rfl,oy,py⟩;have hy:=h4_.go oy py;have ow:=u4_.trans oy;have by_:=b4_.only oy hK;have sy:=by_.lt;have hrr:=(Ox (f:=f) q5).symm.trans HR.out;clear HR;go_wp2_with fail
  cases q9:pE E f (i+1) with
  | error k =>
   refine (rP hy (by omega) q9).mono ?_;rintro e w1 ⟨rfl,o9⟩;have HZ:=HNo.out _ w1 (by rw[<-hrr,q9];rfl) (ow.trans o9);go_wp2_with fail
   exact⟨rfl,HZ⟩
  | ok y =>
   obtain⟨c,j⟩:=y;have hadv:=(gX h.fit f).1 _ _ _ q9;refine (mF hy (by omega) q9).mono ?_;rintro e w1 ⟨a0,n0,c0,a1,n1,c1,F,rfl,o1,h1,ho,fp⟩;have s1:=o1.size;have hlF:=ai.lt _ ho;obtain⟨wk,hwk⟩:=hidx (w1.alloc (.cells #[.int .i64 c.kind,.int .i64 c.n,.int .i64 c.tk,.int .i64 c.tn,.slice a0 n0 c0,.slice a1 n1 c1] 148));have lk:Later w1 wk:=by rw[hwk.out];exact ae _ _
   have hkids:ai wk (.list 6 (Ex.ah [c])) [.slice (some ⟨w1.heap.size,0,none⟩) 1 1] (w1.heap.size::F):=by rw[hwk.out];exact sS ho
   have hk:=h1.later lk;have ok:=(ow.trans o1).trans (af.of_later lk);have bk:=(by_.only o1 hK).later lk;have fk:aJ TB (w.heap.size+1) i j (w1.heap.size::F):=aJ.cons (fp.mono (by omega) (Nat.le_succ _) (Nat.le_refl _)) hlF (by omega);have hKk:K∉w1.heap.size::F:=fk.iy (by omega) h.kt;have hr3:gI E 6 [c] j=r:=by rw[<-hrr,q9];rfl
   clear hrr q9 ho;go_wp2_with fail
   rw[<-hwk.out];by_cases q9:E.txt j=[59]
   ·refine (tu hk 6 (some ⟨w1.heap.size,0,none⟩) 1 1 q9).mono ?_;rintro e w9 ⟨rfl,o9,h9⟩;obtain⟨W,hW,hXW,HZ⟩:=kz (r:=r) (j:=j+1) (kd:=6) (n:=0) (tk:=0) (tn:=0) (nm:=[]) (ks:=[c]) (bs:=[]) (es:=[]) (F0:=[]) (F2:=[]) (F3:=[]) h (by rw[<-hr3];exact jP q9) (ok.trans o9) h9.ps (bk.only o9 hK) (gu _) (aI hkids o9 hKk) (iV _) (iV _) (by rw[List.nil_append,List.append_nil,List.append_nil];exact fk.mono (Nat.le_refl _) (Nat.le_refl _) (Nat.le_succ _));obtain⟨⟨⟨x0,f0⟩,⟨x1,f1⟩,⟨x2,f2⟩,⟨x3,f3⟩,⟨x4,f4⟩,⟨x5,f5⟩,⟨x6,f6⟩,⟨x7,f7⟩⟩,xl⟩:=(bk.only o9 hK).eight;obtain⟨⟨⟨e0,_⟩,⟨e1,_⟩,⟨e2,_⟩,⟨e3,_⟩,⟨e4,_⟩,⟨e5,_⟩,⟨e6,_⟩,⟨e7,_⟩⟩,_⟩:=hXW.eight
    generalize PcP E TX TB en S K tv sv fv w r (gU TB w.heap.size i)=Q at *
    clear HNo hXW HB hr3;go_wp2_with fail
    rw[<-hW.out];exact bodyPost_ret (v:=.agg #[.int .i64 6,.int .i64 0,.int .i64 0,.int .i64 0,.slice none 0 0,.slice (some ⟨w1.heap.size,0,none⟩) 1 1,.slice none 0 0,.slice none 0 0]) (by simp[results,Tryz.results76,go_sem,e0,e1,e2,e3,e4,e5,e6,e7]) rfl HZ.out
   ·refine (yt hk 6 (some ⟨w1.heap.size,0,none⟩) 1 1 q9).mono ?_;rintro e w9 ⟨rfl,o9⟩;have HZ:=HNo.out _ w9 (by rw[<-hr3];exact oM q9) (ok.trans o9);go_wp2_with fail
    exact⟨rfl,HZ⟩
 refine (bT h4_.ps _ _ CP (by decide) q5).mono ?_;rintro e v5 ⟨rfl,o5_,p5_⟩;have h5_:=h4_.go o5_ p5_;have u5_:=u4_.trans o5_;have b5_:=b4_.only o5_ hK;go_wp2_with fail
 by_cases q6:E.txt i=[100,111]
 ·have hil:=ak.aX (E:=E) (i:=i) (by rw[q6];decide);refine (bG h5_.ps _ _ O4 (by decide) q6).mono ?_;rintro e wy ⟨rfl,oy,py⟩;have hy:=h5_.go oy py;have ow:=u5_.trans oy;have by_:=b5_.only oy hK;have sy:=by_.lt;have hrr:=(pS_do (f:=f) q6).symm.trans HR.out;clear HR;go_wp2_with fail
  cases qb:Ff E f (i+1) with
  | error k =>
   refine (kT (Di (f:=f) E TX TB en S K tv sv fv wy (i+1) hy (by omega)) qb).mono ?_;rintro e wz ⟨rfl,o9⟩;have HZ:=HNo.out _ wz (by rw[<-hrr,qb]) (ow.trans o9);go_wp2_with fail
   exact⟨rfl,HZ⟩
  | ok y =>
   obtain⟨x,j⟩:=y;refine (oL hy (Di (f:=f) E TX TB en S K tv sv fv wy (i+1) hy (by omega)) qb).mono ?_;rintro e wz ⟨a0,n0,c0,a1,n1,c1,a2,n2,c2,a3,n3,c3,F,rfl,oz,hz,hoz,fz⟩;obtain⟨W,hW,hXW,HZ⟩:=uX (r:=r) h (by rw[<-hrr,qb]) (ow.trans oz) hz.ps (by_.only oz hK) hoz (fz.behind (by omega) (Nat.le_succ _));obtain⟨⟨⟨x0,f0⟩,⟨x1,f1⟩,⟨x2,f2⟩,⟨x3,f3⟩,⟨x4,f4⟩,⟨x5,f5⟩,⟨x6,f6⟩,⟨x7,f7⟩⟩,xl⟩:=(by_.only oz hK).eight;obtain⟨⟨⟨e0,_⟩,⟨e1,_⟩,⟨e2,_⟩,⟨e3,_⟩,⟨e4,_⟩,⟨e5,_⟩,⟨e6,_⟩,⟨e7,_⟩⟩,_⟩:=hXW.eight
   generalize PcP E TX TB en S K tv sv fv w r (gU TB w.heap.size i)=Q at *
   clear HNo hXW HB hoz fz hrr qb;go_wp2_with fail
   rw[<-hW.out];exact bodyPost_ret (v:=.agg #[.int .i64 x.kind,.int .i64 x.n,.int .i64 x.tk,.int .i64 x.tn,.slice a0 n0 c0,.slice a1 n1 c1,.slice a2 n2 c2,.slice a3 n3 c3]) (by simp[results,Tryz.results76,go_sem,e0,e1,e2,e3,e4,e5,e6,e7]) rfl HZ.out
 refine (bT h5_.ps _ _ O4 (by decide) q6).mono ?_;rintro e v6 ⟨rfl,o6_,p6_⟩;have h6_:=h5_.go o6_ p6_;have u6_:=u5_.trans o6_;have b6_:=b5_.only o6_ hK;go_wp2_with fail
 have hrr:=(Rz (f:=f) q0 q1 q2 q3 q4 q5 q6).symm.trans HR.out;clear HR;have sb:=b6_.lt
 cases qb:yC E f i with
 | error k =>
  refine (kT (AB (f:=f) E TX TB en S K tv sv fv v6 i h6_ (by omega)) qb).mono ?_;rintro e wz ⟨rfl,o9⟩;have HZ:=HNo.out _ wz (by rw[<-hrr,qb]) (u6_.trans o9);go_wp2_with fail
  exact⟨rfl,HZ⟩
 | ok y =>
  obtain⟨x,j⟩:=y;refine (oL h6_ (AB (f:=f) E TX TB en S K tv sv fv v6 i h6_ (by omega)) qb).mono ?_;rintro e wz ⟨a0,n0,c0,a1,n1,c1,a2,n2,c2,a3,n3,c3,F,rfl,oz,hz,hoz,fz⟩;obtain⟨W,hW,hXW,HZ⟩:=uX (r:=r) h (by rw[<-hrr,qb]) (u6_.trans oz) hz.ps (b6_.only oz hK) hoz (fz.behind (by omega) (Nat.le_refl _));obtain⟨⟨⟨x0,f0⟩,⟨x1,f1⟩,⟨x2,f2⟩,⟨x3,f3⟩,⟨x4,f4⟩,⟨x5,f5⟩,⟨x6,f6⟩,⟨x7,f7⟩⟩,xl⟩:=(b6_.only oz hK).eight;obtain⟨⟨⟨e0,_⟩,⟨e1,_⟩,⟨e2,_⟩,⟨e3,_⟩,⟨e4,_⟩,⟨e5,_⟩,⟨e6,_⟩,⟨e7,_⟩⟩,_⟩:=hXW.eight
  generalize PcP E TX TB en S K tv sv fv w r (gU TB w.heap.size i)=Q at *
  clear HNo hXW HB hoz fz hrr qb;go_wp2_with fail
  rw[<-hW.out];exact bodyPost_ret (v:=.agg #[.int .i64 x.kind,.int .i64 x.n,.int .i64 x.tk,.int .i64 x.tn,.slice a0 n0 c0,.slice a1 n1 c1,.slice a2 n2 c2,.slice a3 n3 c3]) (by simp[results,Tryz.results76,go_sem,e0,e1,e2,e3,e4,e5,e6,e7]) rfl HZ.out
theorem pB_no {E:ak}{f i:Nat}(q:E.txt i≠[123]):pB E (f+1) i=.error i:=by rw[pB];unfold aG;rw[if_neg q];rfl
theorem pB_in {E:ak}{f i:Nat}(q:E.txt i=[123]):pB E (f+1) i=pBs E f [] (i+1):=by rw[pB];unfold aG;rw[if_pos q];rfl
theorem RQ {E:ak}{g j:Nat}{ss:List St}(q:E.txt j=[125]):pBs E (g+1) ss j=.ok (ss,j+1):=by rw[pBs,if_pos q]
theorem UR {E:ak}{g j:Nat}{ss:List St}(q:E.txt j≠[125]):pBs E (g+1) ss j=PR.andThen (pS E g j) fun s i=>pBs E g (ss++[s]) i:=by rw[pBs,if_neg q]
theorem St.gq (ks:List St) (x:St):St.ah (ks++[x])=St.ah ks++[x.dat]:=by rw[St.dC,St.dC,List.map_append];rfl
theorem Vt {f:Nat}(H:∀ g,g<f->StC g):BkC (f+1):=by
 intro E TX TB en S K tv sv fv w i h hf;have HNo:Hid (∀ k w',pB E (f+1) i=.error k->af K w w'->PcP E TX TB en S K tv sv fv w (pB E (f+1) i) (pV St.ah 8 TB w.heap.size i) (.panicked [{ v:=.iface 36 (.int .i64 (E.pos en k)),recovered:=false }]) w'):=fun k w' e o=>PcP.no e o;have HY:Hid (∀ ks j w' a n c F,pB E (f+1) i=.ok (ks,j)->af K w w'->Ps E TX TB en S K tv sv fv w' j->n=ks.length->ai w' (.list 8 (St.ah ks)) [.slice a n c] F->aJ TB w.heap.size i j F->ks.length<=6000->PcP E TX TB en S K tv sv fv w (pB E (f+1) i) (pV St.ah 8 TB w.heap.size i) (.returned (.slice a n c)) w'):=fun ks j w' a n c F e o p hn q r l=>by subst hn;exact PcP.yes e o p ⟨a,c,F,rfl,q,r,l⟩
 generalize PcP E TX TB en S K tv sv fv w (pB E (f+1) i) (pV St.ah 8 TB w.heap.size i)=Q at *
 obtain⟨i0,hi,hz0,hz1,hz2⟩:=info_parts Tryz.J8;have hKl:=h.ps.box.lt;have hfew:=(h.ps.tks w (af.refl _ _)).few;go_enter Tryz.func47,Tryz.ntmps47;go_wp2_with fail
 by_cases q1:E.txt i=[123]
 ·have hil:=ak.aX (E:=E) (i:=i) (by rw[q1];decide);refine (df h.ps _ _ Ak (by decide) q1).mono ?_;rintro e w1 ⟨rfl,o1,p1⟩;have h1:=h.go o1 p1
  have HA:Hid (pB E (f+1) i=pBs E f [] (i+1)/\f<=f/\4*(E.l.length - (i+1))+5<=f/\([]:List St).length<=i+1/\i<=i+1):=⟨pB_in q1,Nat.le_refl _,by omega,by simp,by omega⟩
  go_wp2_with fail
  go_loopw [3] (fun r wr=>∃ (g j:Nat) (ks:List St) (xs:List Value) (F:List Nat) (rv:Value),rv=r/\Pz E TX TB en S K tv sv fv wr j/\af K w wr/\Bp TB w.heap.size i j wr 110 8 rv (St.ah ks) xs F/\Hid (pB E (f+1) i=pBs E g ks j/\g<=f/\4*(E.l.length - j)+5<=g/\ks.length<=j/\i<=j)) (fun _ wr=>E.l.length - nxt K wr)
  case atStart=>exact⟨f,i+1,[],[],[],_,rfl,h1,o1,by rw[St.ah];exact Bp.nil _ _ _ _ _ _ _,HA⟩
  case round =>
   clear HA h1 p1 o1;obtain⟨g,j',ks,xs,F',rv,rfl,hR,oR,hB,HR⟩:=hrel
   obtain⟨g,rfl⟩:∃ g',g=g'+1:=⟨g - 1,by have:=HR.out;omega⟩
   have hrow:=hB.row;obtain⟨n,hn⟩:=hidx (St.ah ks).length;rw[<-hn.out]at hrow;have hnk:n=ks.length:=by rw[hn.out,St.az]
   have hHR:=HR.out;have hjl:=hR.ps.le;obtain⟨ra,rc,rfl⟩:=aP hrow;have hlt:=hrow.lt;have hn6:n<=6000:=by omega
   have HG:Hid _:=hnk
   have HE:Hid (pB E (f+1) i=pBs E (g+1) ks j'/\g+1<=f/\4*(E.l.length - j')+5<=g+1):=⟨hHR.1,hHR.2.1,hHR.2.2.1⟩
   have HKj:Hid (ks.length<=j'):=hHR.2.2.2.1;have hij:=hHR.2.2.2.2;clear HR hHR hnk;go_wp2_with fail
   by_cases q4:E.txt j'=[125]
   ·refine (bG hR.ps _ _ Ea (by decide) q4).mono ?_;rintro e w4 ⟨rfl,o4,p4⟩;obtain⟨G,hG1,hG2⟩:=(hB.only o4 hKl h.kt).done (by rw[St.az];have:=HG.out;omega);have HZ:=HY.out ks (j'+1) w4 ra n rc G (by rw[HE.out.1];exact RQ q4) (oR.trans o4) p4 HG.out hG1 (hG2.mono (Nat.le_refl _) (Nat.le_refl _) (Nat.le_succ _)) (by have:=HG.out;omega);go_wp2_with fail
    exact HZ
   ·refine (bT hR.ps _ _ Ea (by decide) q4).mono ?_;rintro e w4 ⟨rfl,o4,p4⟩;have h5:=hR.go o4 p4;have hin:=HE.out.1.trans (UR q4);have hfu:4*(E.l.length - j')+4<=g:=by have:=HE.out.2;omega
    have hgf:g<f:=by have:=HE.out.2;omega
    have hSt:=H g hgf E TX TB en S K tv sv fv w4 j' h5 hfu;go_wp2_with fail
    cases q6:pS E g j' with
    | error k =>
     refine (kT hSt q6).mono ?_;rintro e w6 ⟨rfl,o6⟩;have HZ:=HNo.out _ w6 (by rw[hin,q6];rfl) (oR.trans (o4.trans o6));go_wp2_with fail
     exact⟨rfl,HZ⟩
    | ok y =>
     obtain⟨x,j2⟩:=y;refine (oL h5 hSt q6).mono ?_;rintro e w6 ⟨a0,n0,c0,a1,n1,c1,a2,n2,c2,a3,n3,c3,G,rfl,o6,h6,ho6,fp6⟩;have hadv:=(uZ h.fit g).1 _ _ _ q6;have oo:=o4.trans o6
     have hin2:Hid (pB E (f+1) i=pBs E g (ks++[x]) j2/\g<=f/\4*(E.l.length - j2)+5<=g/\(ks++[x]).length<=j2/\i<=j2):=⟨by rw[hin,q6];rfl,by omega,by omega,by have:=HKj.out;simp;omega,by omega⟩
     have HPU:Hid (∀ w' v',w'.ownsRow w.heap.size 110 8 v' (n+1) (xs++[.int .i64 x.kind,.int .i64 x.n,.int .i64 x.tk,.int .i64 x.tn,.slice a0 n0 c0,.slice a1 n1 c1,.slice a2 n2 c2,.slice a3 n3 c3])->∀ wz,Later w6 wz->wz.grownBy w' (Value.slice ra n rc).ownBlock->(v'.ownBlock=(Value.slice ra n rc).ownBlock\/v'.ownBlock=some wz.heap.size)->af K w w'/\Pz E TX TB en S K tv sv fv w' j2/\Bp TB w.heap.size i j2 w' 110 8 v' (St.ah (ks++[x])) (xs++[.int .i64 x.kind,.int .i64 x.n,.int .i64 x.tk,.int .i64 x.tn,.slice a0 n0 c0,.slice a1 n1 c1,.slice a2 n2 c2,.slice a3 n3 c3]) (F'++G)):=fun w' v' ho wz lz hg hloc=>by
      have oK:=kK oR oo lz hg hlt rfl;have hbz:=h6.ps.box.later lz;refine⟨oK,h.adv oK (hbz.kept hg.size (hg.block K hbz.lt fun e=>by have:=(hlt K e.symm).1;omega)) h6.ps.le,?_⟩;rw[St.gq];exact hB.push h.tb rfl oo hKl h.kt oR.size ho6 (fp6.mono o4.size (Nat.le_refl _) (Nat.le_refl _)) lz (Nat.le_refl _) (by omega) (by omega) (by rw[<-hn.out];exact ho) hg hloc
     have hrA:w6.ownsRow w.heap.size 110 8 (.slice ra n rc) n xs:=cu hrow (iq oo hKl);have bA:w.heap.size<=w6.heap.size:=(oR.trans oo).size
     have HM:Hid (nxt K wr=j'/\j'<j2/\j2<=E.l.length):=⟨hR.ps.nxt,by omega,h6.ps.le⟩
     clear hB hin q6 ho6 fp6 h5 p4 HE HKj hadv HY HNo H q4 o6 o4 hfu hgf hR hSt;go_wp2_with (at_builtin;refine wpList_append_own_at _ rfl _ _ 53 rfl w.heap.size 110 i0 (.agg #[.int .i64 0,.int .i64 0,.int .i64 0,.int .i64 0,.slice none 0 0,.slice none 0 0,.slice none 0 0,.slice none 0 0]) 8 128 Tryz.underlying53 hi hz0 hz1 hz2 rfl (by decide) _ _ _ rfl (hrA.alloc _) _ 1 1 [.int .i64 x.kind,.int .i64 x.n,.int .i64 x.tk,.int .i64 x.tn,.slice a0 n0 c0,.slice a1 n1 c1,.slice a2 n2 c2,.slice a3 n3 c3] rfl rfl (fA _ _ _ (by simp)) (by simp[Value.oneCell']) (by unfold maxLen;omega) (by omega) (Nat.le_trans bA (ae _ _).size) ?_;intro v9 w9 o9 g9 _ h9;obtain⟨L9,P9,B9⟩:=HPU.out _ _ o9 _ (ae _ _) g9 h9;obtain⟨a9,p9,hv9⟩:=aP o9;rw[hv9]at B9 o9 ⊢)
     go_roundw
     case rel=>exact⟨g,j2,ks++[x],_,_,_,rfl,P9,L9,B9,hin2⟩
     case measure =>
      rw[P9.ps.nxt,HM.out.1];have:=HM.out;omega
 ·refine (dN h.ps _ _ Ak (by decide) q1).mono ?_;rintro e w1 ⟨rfl,o1⟩;have HZ:=HNo.out _ w1 (pB_no q1) o1;go_wp2_with fail
  exact⟨rfl,HZ⟩
theorem zh:∀ f,StC f/\BkC f:=by
 intro f
 induction f using Nat.strongRecOn with
 | _ f IH =>
  match f with
  | 0=>exact⟨fun E TX TB en S K tv sv fv w i _ hf=>by omega,fun E TX TB en S K tv sv fv w i _ hf=>by omega⟩
  | f+1=>exact⟨Uu (IH f (by omega)).2,Vt fun g q=>(IH g (by omega)).1⟩
end Go.Proofs.YtgaddpkkjebekaaGreatDoor
