import Derived.Test.YtgaddpkkjebekaaGreatDoorZ43
set_option maxHeartbeats 100000000
set_option maxRecDepth 100000
namespace Go.Proofs.YtgaddpkkjebekaaGreatDoor
open Go.RowKit Go.Maps
def gU (TB:Nat->List Nat) (B i:Nat) (x:St) (j:Nat) (v:Value) (w:World):Prop:=∃ u0 u1 u2 u3 F,v=.agg #[.int .i64 x.kind,.int .i64 x.n,.int .i64 x.tk,.int .i64 x.tn,u0,u1,u2,u3]/\ai w x.dat [.int .i64 x.kind,.int .i64 x.n,.int .i64 x.tk,.int .i64 x.tn,u0,u1,u2,u3] F/\aJ TB B i j F
theorem Bxx.eight {w:World}{B:Nat}{a b c d e f g i:Value}(h:Bxx w B [a,b,c,d,e,f,g,i]):((w.cell? ⟨B,0,none⟩=some a/\w.frozen? ⟨B,0,none⟩=false)/\(w.cell? ⟨B,1,none⟩=some b/\w.frozen? ⟨B,1,none⟩=false)/\(w.cell? ⟨B,2,none⟩=some c/\w.frozen? ⟨B,2,none⟩=false)/\(w.cell? ⟨B,3,none⟩=some d/\w.frozen? ⟨B,3,none⟩=false)/\(w.cell? ⟨B,4,none⟩=some e/\w.frozen? ⟨B,4,none⟩=false)/\(w.cell? ⟨B,5,none⟩=some f/\w.frozen? ⟨B,5,none⟩=false)/\(w.cell? ⟨B,6,none⟩=some g/\w.frozen? ⟨B,6,none⟩=false)/\(w.cell? ⟨B,7,none⟩=some i/\w.frozen? ⟨B,7,none⟩=false))/\B<w.heap.size :=
 ⟨⟨h.cell 0 _ rfl,h.cell 1 _ rfl,h.cell 2 _ rfl,h.cell 3 _ rfl,h.cell 4 _ rfl,h.cell 5 _ rfl,h.cell 6 _ rfl,h.cell 7 _ rfl⟩,h.lt⟩
theorem KY {w:World}{x:St}{u0 u1 u2 u3:Value}{F:List Nat}(h:ai w x.dat [.int .i64 x.kind,.int .i64 x.n,.int .i64 x.tk,.int .i64 x.tn,u0,u1,u2,u3] F):∃ a0 n0 c0 a1 n1 c1 a2 n2 c2 a3 n3 c3,u0=.slice a0 n0 c0/\u1=.slice a1 n1 c1/\u2=.slice a2 n2 c2/\u3=.slice a3 n3 c3:=by
 obtain⟨kind,n,tk,tn,name,kids,body,els⟩:=x;rw[St.dat,ai]at h;simp only[aA,ai]at h;obtain⟨c1,c2,F1,F2,e,-,⟨rfl,-⟩,d1,d2,G1,G2,e2,-,⟨rfl,-⟩,d3,d4,G3,G4,e3,-,⟨rfl,-⟩,d5,d6,G5,G6,e4,-,⟨rfl,-⟩,d7,d8,G7,G8,e5,-,⟨a0,p0,rfl,-⟩,d9,d10,G9,G10,e6,-,⟨a1,p1,rfl,-⟩,d11,d12,G11,G12,e7,-,⟨a2,p2,rfl,-⟩,d13,d14,G13,G14,e8,-,⟨a3,p3,rfl,-⟩,rfl,-⟩:=h;subst e8 e7 e6 e5 e4 e3 e2;simp only[List.cons_append,List.nil_append,List.cons.injEq]at e;exact⟨_,_,_,_,_,_,_,_,_,_,_,_,e.2.2.2.2.1,e.2.2.2.2.2.1,e.2.2.2.2.2.2.1,e.2.2.2.2.2.2.2.1⟩
theorem set8 {w3:World}{B:Nat}{c0 c1 c2 c3 c4 c5 c6 c7:Value}(hb:Bxx w3 B [c0,c1,c2,c3,c4,c5,c6,c7]) (a b c d e f g i:Value):∃ W,Hid (W=((((((((w3).setCell ⟨B,0,none⟩ (a)).setCell ⟨B,1,none⟩ (b)).setCell ⟨B,2,none⟩ (c)).setCell ⟨B,3,none⟩ (d)).setCell ⟨B,4,none⟩ (e)).setCell ⟨B,5,none⟩ (f)).setCell ⟨B,6,none⟩ (g)).setCell ⟨B,7,none⟩ (i))/\af B w3 W/\Bxx W B [a,b,c,d,e,f,g,i]/\W.heap.size=w3.heap.size :=
 ⟨_,rfl,((((((((af.refl _ w3).set 0 _).set 1 _).set 2 _).set 3 _).set 4 _).set 5 _).set 6 _).set 7 _,(((((((hb.set 0 _ (by simp)).set 1 _ (by simp)).set 2 _ (by simp)).set 3 _ (by simp)).set 4 _ (by simp)).set 5 _ (by simp)).set 6 _ (by simp)).set 7 _ (by simp),by simp[World.size_setCell]⟩
theorem Ad {K:Nat}{w w4 W:World}(o:af K w w4) (oR:af w.heap.size w4 W):af K w W :=
 ⟨oR.os.trans o.os,oR.tape.trans o.tape,oR.output.trans o.output,Nat.le_trans o.size oR.size,fun b hb hn=>by rw[oR.block b (Nat.lt_of_lt_of_le hb o.size) (by omega)];exact o.block b hb hn⟩
theorem aJ.notR {TB:Nat->List Nat}{B i j:Nat}{F:List Nat}(hT:BF TB B) (h:aJ TB (B+1) i j F):B∉F:=fun q=>by
 rcases h.whr _ q with a|⟨k,_,_,a⟩
 ·omega
 ·exact Nat.lt_irrefl _ (hT.lt k _ a)
theorem uX {E:ak}{TX:Nat->Value}{TB:Nat->List Nat}{en:Int}{S:List Sc}{K:Nat}{tv sv fv:Value}{w:World}{i:Nat}(h:Pz E TX TB en S K tv sv fv w i) {w4:World}{r:PR St}{x:St}{j:Nat}{u0 u1 u2 u3:Value}{F:List Nat}{c0 c1 c2 c3 c4 c5 c6 c7:Value}(hr:r=.ok (x,j)) (o:af K w w4) (p:Ps E TX TB en S K tv sv fv w4 j) (hb:Bxx w4 w.heap.size [c0,c1,c2,c3,c4,c5,c6,c7]) (ho:ai w4 x.dat [.int .i64 x.kind,.int .i64 x.n,.int .i64 x.tk,.int .i64 x.tn,u0,u1,u2,u3] F) (fp:aJ TB (w.heap.size+1) i j F) :
  ∃ W,Hid (W=((((((((w4).setCell ⟨w.heap.size,0,none⟩ (.int .i64 x.kind)).setCell ⟨w.heap.size,1,none⟩ (.int .i64 x.n)).setCell ⟨w.heap.size,2,none⟩ (.int .i64 x.tk)).setCell ⟨w.heap.size,3,none⟩ (.int .i64 x.tn)).setCell ⟨w.heap.size,4,none⟩ (u0)).setCell ⟨w.heap.size,5,none⟩ (u1)).setCell ⟨w.heap.size,6,none⟩ (u2)).setCell ⟨w.heap.size,7,none⟩ (u3))/\Bxx W w.heap.size [.int .i64 x.kind,.int .i64 x.n,.int .i64 x.tk,.int .i64 x.tn,u0,u1,u2,u3]/\Hid (PcP E TX TB en S K tv sv fv w r (gU TB w.heap.size i) (.returned (.agg #[.int .i64 x.kind,.int .i64 x.n,.int .i64 x.tk,.int .i64 x.tn,u0,u1,u2,u3])) W):=by
 obtain⟨W,hW,oR,bW,sW⟩:=set8 hb (.int .i64 x.kind) (.int .i64 x.n) (.int .i64 x.tk) (.int .i64 x.tn) u0 u1 u2 u3;have hK:K≠w.heap.size:=by have:=h.ps.box.lt;omega
 have oK:=Ad o oR;exact⟨W,hW,bW,PcP.yes hr oK (h.ps.move oK (p.box.only oR hK) p.le) ⟨_,_,_,_,_,rfl,aI ho oR (fp.notR h.tb),fp.mono (Nat.le_succ _) (Nat.le_refl _) (Nat.le_refl _)⟩⟩
theorem kz {E:ak}{TX:Nat->Value}{TB:Nat->List Nat}{en:Int}{S:List Sc}{K:Nat}{tv sv fv:Value}{w:World}{i:Nat}(h:Pz E TX TB en S K tv sv fv w i) {w4:World}{r:PR St}{kd n tk tn:Int}{nm:List Int}{ks:List Ex}{bs es:List St}{j:Nat}{u0 u1 u2 u3:Value}{F0 F1 F2 F3:List Nat}{c0 c1 c2 c3 c4 c5 c6 c7:Value}(hr:r=.ok (.mk kd n tk tn nm ks bs es,j)) (o:af K w w4) (p:Ps E TX TB en S K tv sv fv w4 j) (hb:Bxx w4 w.heap.size [c0,c1,c2,c3,c4,c5,c6,c7]) (h0:ai w4 (.bytes nm) [u0] F0) (h1:ai w4 (.list 6 (Ex.ah ks)) [u1] F1) (h2:ai w4 (.list 8 (St.ah bs)) [u2] F2) (h3:ai w4 (.list 8 (St.ah es)) [u3] F3) (fp:aJ TB (w.heap.size+1) i j (F0++(F1++(F2++F3)))) :
  ∃ W,Hid (W=((((((((w4).setCell ⟨w.heap.size,0,none⟩ (.int .i64 kd)).setCell ⟨w.heap.size,1,none⟩ (.int .i64 n)).setCell ⟨w.heap.size,2,none⟩ (.int .i64 tk)).setCell ⟨w.heap.size,3,none⟩ (.int .i64 tn)).setCell ⟨w.heap.size,4,none⟩ (u0)).setCell ⟨w.heap.size,5,none⟩ (u1)).setCell ⟨w.heap.size,6,none⟩ (u2)).setCell ⟨w.heap.size,7,none⟩ (u3))/\Bxx W w.heap.size [.int .i64 kd,.int .i64 n,.int .i64 tk,.int .i64 tn,u0,u1,u2,u3]/\Hid (PcP E TX TB en S K tv sv fv w r (gU TB w.heap.size i) (.returned (.agg #[.int .i64 kd,.int .i64 n,.int .i64 tk,.int .i64 tn,u0,u1,u2,u3])) W) :=
 uX (x:=St.mk kd n tk tn nm ks bs es) h hr o p hb (St.own (x:=St.mk kd n tk tn nm ks bs es) h0 h1 h2 h3) fp
theorem OM (w:World):ai w (.list 6 (Ex.ah [])) [.slice none 0 0] []:=by rw[Ex.ah];exact jE _ _
theorem iV (w:World):ai w (.list 8 (St.ah [])) [.slice none 0 0] []:=by rw[St.ah];exact jE _ _
def Kw (kd:Int) (kv:Value) (_:St) (_:Nat) (v:Value) (_:World):Prop:=v=.agg #[.int .i64 kd,.int .i64 0,.int .i64 0,.int .i64 0,.slice none 0 0,kv,.slice none 0 0,.slice none 0 0]
theorem jP {E:ak}{kd:Int}{ks:List Ex}{i:Nat}(q:E.txt i=[59]):gI E kd ks i=.ok (.mk kd 0 0 0 [] ks [] [],i+1):=by unfold gI aG;rw[if_pos q];rfl
theorem oM {E:ak}{kd:Int}{ks:List Ex}{i:Nat}(q:E.txt i≠[59]):gI E kd ks i=.error i:=by unfold gI aG;rw[if_neg q];rfl
theorem Dh (E:ak) (TX:Nat->Value) (TB:Nat->List Nat) (en:Int) (S:List Sc) (K:Nat) (tv sv fv:Value) (w:World) (i:Nat) (h:Pz E TX TB en S K tv sv fv w i) (kd:Int) (ka:Option Addr) (kn kc:Nat) (ks:List Ex):Calls Tryz.prog 104 #[.pointer (some ⟨K,0,none⟩),.int .i64 kd,.slice ka kn kc] w (PcP E TX TB en S K tv sv fv w (gI E kd ks i) (Kw kd (.slice ka kn kc))):=by
 have HNo:Hid (∀ k w',gI E kd ks i=.error k->af K w w'->PcP E TX TB en S K tv sv fv w (gI E kd ks i) (Kw kd (.slice ka kn kc)) (.panicked [{ v:=.iface 36 (.int .i64 (E.pos en k)),recovered:=false }]) w'):=fun k w' e o=>PcP.no e o
 generalize hr:gI E kd ks i=r at *
 have HR:Hid (gI E kd ks i=r):=hr;clear hr;obtain⟨wa,hwa⟩:=hidx (w.alloc (.cells #[.int .i64 0,.int .i64 0,.int .i64 0,.int .i64 0,.slice none 0 0,.slice none 0 0,.slice none 0 0,.slice none 0 0] 110));have la:Later w wa:=by rw[hwa.out];exact ae _ _
 have ha:=h.later la;have hbx:Bxx wa w.heap.size [.int .i64 0,.int .i64 0,.int .i64 0,.int .i64 0,.slice none 0 0,.slice none 0 0,.slice none 0 0,.slice none 0 0]:=by rw[hwa.out];exact Bxx.new _ _ _
 have hs:=hbx.lt;have oa:af K w wa:=af.of_later la;have hKl:=h.ps.box.lt;have hK:w.heap.size≠K:=by omega
 go_enter Tryz.func104,Tryz.ntmps104;go_wp2_with fail
 rw[<-hwa.out];by_cases q1:E.txt i=[59]
 ·refine (df ha.ps _ _ lh (by decide) q1).mono ?_;rintro e w1 ⟨rfl,o1,p1⟩;obtain⟨W,hW,oR,bW,sW⟩:=set8 (hbx.only o1 hK) (.int .i64 kd) (.int .i64 0) (.int .i64 0) (.int .i64 0) (.slice none 0 0) (.slice ka kn kc) (.slice none 0 0) (.slice none 0 0);have oK:=Ad (oa.trans o1) oR;have HZ:Hid (PcP E TX TB en S K tv sv fv w r (Kw kd (.slice ka kn kc)) (.returned (.agg #[.int .i64 kd,.int .i64 0,.int .i64 0,.int .i64 0,.slice none 0 0,.slice ka kn kc,.slice none 0 0,.slice none 0 0])) W):=PcP.yes (HR.out.symm.trans (jP q1)) oK (h.ps.move oK (p1.box.only oR (Ne.symm hK)) p1.le) rfl;obtain⟨⟨⟨x0,f0⟩,⟨x1,f1⟩,⟨x2,f2⟩,⟨x3,f3⟩,⟨x4,f4⟩,⟨x5,f5⟩,⟨x6,f6⟩,⟨x7,f7⟩⟩,xl⟩:=(hbx.only o1 hK).eight;obtain⟨⟨⟨e0,_⟩,⟨e1,_⟩,⟨e2,_⟩,⟨e3,_⟩,⟨e4,_⟩,⟨e5,_⟩,⟨e6,_⟩,⟨e7,_⟩⟩,_⟩:=bW.eight
  generalize PcP E TX TB en S K tv sv fv w r (Kw kd (.slice ka kn kc))=Q at *
  clear HNo HR bW;go_wp2_with fail
  rw[<-hW.out];exact bodyPost_ret (v:=.agg #[.int .i64 kd,.int .i64 0,.int .i64 0,.int .i64 0,.slice none 0 0,.slice ka kn kc,.slice none 0 0,.slice none 0 0]) (by simp[results,Tryz.results104,go_sem,e0,e1,e2,e3,e4,e5,e6,e7]) rfl HZ.out
 ·refine (dN ha.ps _ _ lh (by decide) q1).mono ?_;rintro e w1 ⟨rfl,o1⟩;have HZ:=HNo.out _ w1 (HR.out.symm.trans (oM q1)) (oa.trans o1);go_wp2_with fail
  exact⟨rfl,HZ⟩
theorem tu {E:ak}{TX:Nat->Value}{TB:Nat->List Nat}{en:Int}{S:List Sc}{K:Nat}{tv sv fv:Value}{w:World}{i:Nat}(h:Pz E TX TB en S K tv sv fv w i) (kd:Int) (ka:Option Addr) (kn kc:Nat) (q:E.txt i=[59]):Calls Tryz.prog 104 #[.pointer (some ⟨K,0,none⟩),.int .i64 kd,.slice ka kn kc] w fun e w'=>e=.returned (.agg #[.int .i64 kd,.int .i64 0,.int .i64 0,.int .i64 0,.slice none 0 0,.slice ka kn kc,.slice none 0 0,.slice none 0 0])/\af K w w'/\Pz E TX TB en S K tv sv fv w' (i+1) :=
 (Dh E TX TB en S K tv sv fv w i h kd ka kn kc []).mono fun _ _ r=>by
  obtain⟨v,e1,p,e2⟩:=r.well _ _ (jP q);exact⟨by rw[e1,e2],r.only,h.go r.only p⟩
theorem yt {E:ak}{TX:Nat->Value}{TB:Nat->List Nat}{en:Int}{S:List Sc}{K:Nat}{tv sv fv:Value}{w:World}{i:Nat}(h:Pz E TX TB en S K tv sv fv w i) (kd:Int) (ka:Option Addr) (kn kc:Nat) (q:E.txt i≠[59]):Calls Tryz.prog 104 #[.pointer (some ⟨K,0,none⟩),.int .i64 kd,.slice ka kn kc] w fun e w'=>e=.panicked [{ v:=.iface 36 (.int .i64 (E.pos en i)),recovered:=false }]/\af K w w' :=
 (Dh E TX TB en S K tv sv fv w i h kd ka kn kc []).mono fun _ _ r=>⟨r.bad i (oM q),r.only⟩
def wF (E:ak) (i:Nat):PR St:=PR.andThen (eX E i) fun a i=>PR.andThen (pTy E i) fun t i=>PR.andThen (aG E [59] i) fun _ i=>.ok (.mk 0 0 t.1 t.2 a [] [] [],i)
theorem AA (E:ak) (TX:Nat->Value) (TB:Nat->List Nat) (en:Int) (S:List Sc) (K:Nat) (tv sv fv:Value) (w:World) (i:Nat) (h:Pz E TX TB en S K tv sv fv w i):Calls Tryz.prog 100 #[.pointer (some ⟨K,0,none⟩)] w (PcP E TX TB en S K tv sv fv w (wF E i) (gU TB w.heap.size i)):=by
 have HNo:Hid (∀ k w',wF E i=.error k->af K w w'->PcP E TX TB en S K tv sv fv w (wF E i) (gU TB w.heap.size i) (.panicked [{ v:=.iface 36 (.int .i64 (E.pos en k)),recovered:=false }]) w'):=fun k w' e o=>PcP.no e o
 generalize hr:wF E i=r at *
 have HR:Hid (wF E i=r):=hr;clear hr;obtain⟨wa,hwa⟩:=hidx (w.alloc (.cells #[.int .i64 0,.int .i64 0,.int .i64 0,.int .i64 0,.slice none 0 0,.slice none 0 0,.slice none 0 0,.slice none 0 0] 110));have la:Later w wa:=by rw[hwa.out];exact ae _ _
 have ha:=h.later la;have hbx:Bxx wa w.heap.size [.int .i64 0,.int .i64 0,.int .i64 0,.int .i64 0,.slice none 0 0,.slice none 0 0,.slice none 0 0,.slice none 0 0]:=by rw[hwa.out];exact Bxx.new _ _ _
 have hs:=hbx.lt;have oa:af K w wa:=af.of_later la;have hKl:=h.ps.box.lt;have hK:w.heap.size≠K:=by omega
 go_enter Tryz.func100,Tryz.ntmps100;go_wp2_with fail
 rw[<-hwa.out];by_cases q1:aQ (E.txt i)=true
 ·have hi:=ak.aX (E:=E) (i:=i) (fun e=>by rw[e]at q1;revert q1;decide);refine (sK ha q1).mono ?_;rintro e w1 ⟨rfl,o1,h1⟩;obtain⟨xa,xc,hx⟩:=jb (h1.ps.nameAt hi);have hr2:(PR.andThen (pTy E (i+1)) fun t k=>PR.andThen (aG E [59] k) fun _ k=>.ok (St.mk 0 0 t.1 t.2 (E.txt i) [] [] [],k))=r:=by rw[<-HR.out];unfold wF;rw[nz h.nm q1];rfl
  rw[hx];have HX:Hid _:=hx;clear hx;obtain⟨xn,hxn⟩:=hidx (E.txt i).length;rw[<-hxn.out]at HX ⊢;obtain⟨wb,hwb⟩:=hidx (w1.alloc (.cells #[.int .i64 0,.int .i64 0,.int .i64 0,.int .i64 0,.slice xa xn xc,.slice none 0 0,.slice none 0 0,.slice none 0 0] 110));have lb:Later w1 wb:=by rw[hwb.out];exact ae _ _
  have hbs:Bxx wb w1.heap.size [.int .i64 0,.int .i64 0,.int .i64 0,.int .i64 0,.slice xa xn xc,.slice none 0 0,.slice none 0 0,.slice none 0 0]:=by rw[hwb.out];exact Bxx.new _ _ _
  have hb:=h1.later lb;have ob:=(oa.trans o1).trans (af.of_later lb);have bb:=(hbx.only o1 hK).later lb;have hK1:w1.heap.size≠K:=by have:=h1.ps.box.lt;omega
  have hRs:w.heap.size≠w1.heap.size:=by have:=o1.size;omega
  clear HR;go_wp2_with fail
  rw[<-hwb.out]
  cases q2:pTy E (i+1) with
  | error k =>
   refine (NI hb.ps h.fit q2).mono ?_;rintro e w2 ⟨rfl,o9⟩;have HZ:=HNo.out _ w2 (by rw[<-hr2,q2];rfl) (ob.trans o9);go_wp2_with fail
   exact⟨rfl,HZ⟩
  | ok y =>
   obtain⟨t,j⟩:=y;have hadv:=wG h.fit q2;refine (Hq hb.ps h.fit q2).mono ?_;rintro e w2 ⟨rfl,o2,p2⟩;have hr3:(PR.andThen (aG E [59] j) fun _ k=>.ok (St.mk 0 0 t.1 t.2 (E.txt i) [] [] [],k))=r:=by rw[<-hr2,q2];rfl
   have hbs2:=hbs.only o2 hK1;obtain⟨⟨⟨x0,f0⟩,⟨x1,f1⟩,⟨x2,f2⟩,⟨x3,f3⟩,⟨x4,f4⟩,⟨x5,f5⟩,⟨x6,f6⟩,⟨x7,f7⟩⟩,xl⟩:=hbs2.eight;obtain⟨wc,hwc⟩:=hidx ((w2.setCell ⟨w1.heap.size,2,none⟩ (.int .i64 t.1)).setCell ⟨w1.heap.size,3,none⟩ (.int .i64 t.2));have hbs3:Bxx wc w1.heap.size [.int .i64 0,.int .i64 0,.int .i64 t.1,.int .i64 t.2,.slice xa xn xc,.slice none 0 0,.slice none 0 0,.slice none 0 0]:=by rw[hwc.out];exact (hbs2.set 2 _ (by simp)).set 3 _ (by simp)
   have oc0:af w1.heap.size w2 wc:=by rw[hwc.out];exact ((af.refl _ w2).set 2 _).set 3 _
   have oc:af K w wc:=by rw[hwc.out];exact ((ob.trans o2).iG (by have:=o1.size;omega) 2 _).iG (by have:=o1.size;omega) 3 _
   have hc:Pz E TX TB en S K tv sv fv wc j:=h.adv oc (p2.box.only oc0 (Ne.symm hK1)) p2.le;have bc:=(bb.only o2 hK).only oc0 hRs;clear hr2 q2;go_wp2_with fail
   rw[<-hwc.out];clear x0 f0 x1 f1 x2 f2 x3 f3 x4 f4 x5 f5 x6 f6 x7 f7 xl;by_cases q3:E.txt j=[59]
   ·refine (df hc.ps _ _ lh (by decide) q3).mono ?_;rintro e w3 ⟨rfl,o3,p3⟩;have hbs4:=hbs3.only o3 hK1;have b4:=bc.only o3 hK;have hn:=(h.ps.move (oc.trans o3) p3.box p3.le).nameAt hi;rw[HX.out]at hn;obtain⟨W,hW,hXW,HZ⟩:=kz (r:=r) (j:=j+1) (kd:=0) (n:=0) (tk:=t.1) (tn:=t.2) (nm:=E.txt i) (ks:=[]) (bs:=[]) (es:=[]) (F1:=[]) (F2:=[]) (F3:=[]) h (by rw[<-hr3];unfold aG;rw[if_pos q3];rfl) (oc.trans o3) p3 b4 hn (OM _) (iV _) (iV _) (by rw[List.append_nil,List.append_nil,List.append_nil];exact (aJ.text (h.tb.mono (Nat.le_succ _)) i).mono (Nat.le_refl _) (Nat.le_refl _) (by omega));obtain⟨⟨⟨z0,y0⟩,⟨z1,y1⟩,⟨z2,y2⟩,⟨z3,y3⟩,⟨z4,y4⟩,⟨z5,y5⟩,⟨z6,y6⟩,⟨z7,y7⟩⟩,zl⟩:=hbs4.eight;obtain⟨⟨⟨x0,f0⟩,⟨x1,f1⟩,⟨x2,f2⟩,⟨x3,f3⟩,⟨x4,f4⟩,⟨x5,f5⟩,⟨x6,f6⟩,⟨x7,f7⟩⟩,xl⟩:=b4.eight;obtain⟨⟨⟨e0,_⟩,⟨e1,_⟩,⟨e2,_⟩,⟨e3,_⟩,⟨e4,_⟩,⟨e5,_⟩,⟨e6,_⟩,⟨e7,_⟩⟩,_⟩:=hXW.eight
    generalize PcP E TX TB en S K tv sv fv w r (gU TB w.heap.size i)=Q at *
    clear HNo hr3 hXW hn HX hxn;go_wp2_with fail
    rw[<-hW.out];exact bodyPost_ret (v:=.agg #[.int .i64 0,.int .i64 0,.int .i64 t.1,.int .i64 t.2,.slice xa xn xc,.slice none 0 0,.slice none 0 0,.slice none 0 0]) (by simp[results,Tryz.results100,go_sem,e0,e1,e2,e3,e4,e5,e6,e7]) rfl HZ.out
   ·refine (dN hc.ps _ _ lh (by decide) q3).mono ?_;rintro e w3 ⟨rfl,o3⟩;have HZ:=HNo.out _ w3 (by rw[<-hr3];unfold aG;rw[if_neg q3];rfl) (oc.trans o3);go_wp2_with fail
    exact⟨rfl,HZ⟩
 ·refine (ww ha q1).mono ?_;rintro e w1 ⟨rfl,o1⟩;have HZ:=HNo.out _ w1 (HR.out.symm.trans (by unfold wF;rw[wM h.nm q1];rfl)) (oa.trans o1);go_wp2_with fail
  exact⟨rfl,HZ⟩
def StC (f:Nat):Prop:=∀ (E:ak) (TX:Nat->Value) (TB:Nat->List Nat) (en:Int) (S:List Sc) (K:Nat) (tv sv fv:Value) (w:World) (i:Nat),Pz E TX TB en S K tv sv fv w i->4*(E.l.length - i)+4<=f->Calls Tryz.prog 76 #[.pointer (some ⟨K,0,none⟩)] w (PcP E TX TB en S K tv sv fv w (pS E f i) (gU TB w.heap.size i))
def BkC (f:Nat):Prop:=∀ (E:ak) (TX:Nat->Value) (TB:Nat->List Nat) (en:Int) (S:List Sc) (K:Nat) (tv sv fv:Value) (w:World) (i:Nat),Pz E TX TB en S K tv sv fv w i->4*(E.l.length - i)+3<=f->Calls Tryz.prog 47 #[.pointer (some ⟨K,0,none⟩)] w (PcP E TX TB en S K tv sv fv w (pB E f i) (pV St.ah 8 TB w.heap.size i))
theorem BC {f:Nat}(H:BkC f) {E:ak}{TX:Nat->Value}{TB:Nat->List Nat}{en:Int}{S:List Sc}{K:Nat}{tv sv fv:Value}{w:World}{i:Nat}(h:Pz E TX TB en S K tv sv fv w i) (hf:4*(E.l.length - i)+3<=f) {x:List St}{j:Nat}(q:pB E f i=.ok (x,j)):Calls Tryz.prog 47 #[.pointer (some ⟨K,0,none⟩)] w fun e w'=>∃ a n c F,e=.returned (.slice a n c)/\af K w w'/\Pz E TX TB en S K tv sv fv w' j/\ai w' (.list 8 (St.ah x)) [.slice a n c] F/\aJ TB w.heap.size i j F :=
 (H E TX TB en S K tv sv fv w i h hf).mono fun _ _ r=>by
  obtain⟨v,e1,p,a,c,F,e2,o,fp,_⟩:=r.well x j q;exact⟨a,_,c,F,by rw[e1,e2],r.only,h.go r.only p,o,fp⟩
theorem GR {f:Nat}(H:BkC f) {E:ak}{TX:Nat->Value}{TB:Nat->List Nat}{en:Int}{S:List Sc}{K:Nat}{tv sv fv:Value}{w:World}{i:Nat}(h:Pz E TX TB en S K tv sv fv w i) (hf:4*(E.l.length - i)+3<=f) {k:Nat}(q:pB E f i=.error k):Calls Tryz.prog 47 #[.pointer (some ⟨K,0,none⟩)] w fun e w'=>e=.panicked [{ v:=.iface 36 (.int .i64 (E.pos en k)),recovered:=false }]/\af K w w' :=
 (H E TX TB en S K tv sv fv w i h hf).mono fun _ _ r=>⟨r.bad k q,r.only⟩
theorem mF {f:Nat}{E:ak}{TX:Nat->Value}{TB:Nat->List Nat}{en:Int}{S:List Sc}{K:Nat}{tv sv fv:Value}{w:World}{i:Nat}(h:Pz E TX TB en S K tv sv fv w i) (hf:4*(E.l.length - i)+3<=f) {x:Ex}{j:Nat}(q:pE E f i=.ok (x,j)):Calls Tryz.prog 105 #[.pointer (some ⟨K,0,none⟩)] w fun e w'=>∃ a0 n0 c0 a1 n1 c1 F,e=.returned (.agg #[.int .i64 x.kind,.int .i64 x.n,.int .i64 x.tk,.int .i64 x.tn,.slice a0 n0 c0,.slice a1 n1 c1])/\af K w w'/\Pz E TX TB en S K tv sv fv w' j/\ai w' x.dat [.int .i64 x.kind,.int .i64 x.n,.int .i64 x.tk,.int .i64 x.tn,.slice a0 n0 c0,.slice a1 n1 c1] F/\aJ TB w.heap.size i j F :=
 DV h (Kv f E TX TB en S K tv sv fv w i h hf) q
theorem rP {f:Nat}{E:ak}{TX:Nat->Value}{TB:Nat->List Nat}{en:Int}{S:List Sc}{K:Nat}{tv sv fv:Value}{w:World}{i:Nat}(h:Pz E TX TB en S K tv sv fv w i) (hf:4*(E.l.length - i)+3<=f) {k:Nat}(q:pE E f i=.error k):Calls Tryz.prog 105 #[.pointer (some ⟨K,0,none⟩)] w fun e w'=>e=.panicked [{ v:=.iface 36 (.int .i64 (E.pos en k)),recovered:=false }]/\af K w w':=kT (Kv f E TX TB en S K tv sv fv w i h hf) q
theorem sS {w:World}{x:Ex}{a0:Option Addr}{n0 c0:Nat}{a1:Option Addr}{n1 c1:Nat}{F:List Nat}(h:ai w x.dat [.int .i64 x.kind,.int .i64 x.n,.int .i64 x.tk,.int .i64 x.tn,.slice a0 n0 c0,.slice a1 n1 c1] F):ai (w.alloc (.cells #[.int .i64 x.kind,.int .i64 x.n,.int .i64 x.tk,.int .i64 x.tn,.slice a0 n0 c0,.slice a1 n1 c1] 148)) (.list 6 (Ex.ah [x])) [.slice (some ⟨w.heap.size,0,none⟩) 1 1] (w.heap.size::F):=by
 rw[Ex.ah,Ex.ah];exact xW (Bxx.new w #[.int .i64 x.kind,.int .i64 x.n,.int .i64 x.tk,.int .i64 x.tn,.slice a0 n0 c0,.slice a1 n1 c1] 148) rfl (fE h (ae _ _))
def Fa (E:ak) (f i:Nat):PR St:=PR.andThen (pE E f i) fun c i=>PR.andThen (pB E f i) fun b i=>PR.andThen (aG E [101,108,115,101] i) fun _ i=>PR.andThen (pB E f i) fun d i=>.ok (.mk 2 0 0 0 [] [c] b d,i)
def yG (E:ak) (f i:Nat):PR St:=PR.andThen (pE E f i) fun c i=>PR.andThen (pB E f i) fun b i=>.ok (.mk 3 0 0 0 [] [c] b [],i)
theorem AP {f:Nat}(HB:BkC f) (E:ak) (TX:Nat->Value) (TB:Nat->List Nat) (en:Int) (S:List Sc) (K:Nat) (tv sv fv:Value) (w:World) (i:Nat) (h:Pz E TX TB en S K tv sv fv w i) (hf:4*(E.l.length - i)+3<=f):Calls Tryz.prog 102 #[.pointer (some ⟨K,0,none⟩)] w (PcP E TX TB en S K tv sv fv w (yG E f i) (gU TB w.heap.size i)):=by
 have HNo:Hid (∀ k w',yG E f i=.error k->af K w w'->PcP E TX TB en S K tv sv fv w (yG E f i) (gU TB w.heap.size i) (.panicked [{ v:=.iface 36 (.int .i64 (E.pos en k)),recovered:=false }]) w'):=fun k w' e o=>PcP.no e o
 generalize hr:yG E f i=r at *
 have HR:Hid _:=hr;clear hr;obtain⟨wa,hwa⟩:=hidx (w.alloc (.cells #[.int .i64 0,.int .i64 0,.int .i64 0,.int .i64 0,.slice none 0 0,.slice none 0 0,.slice none 0 0,.slice none 0 0] 110));have la:Later w wa:=by rw[hwa.out];exact ae _ _
 have ha:=h.later la;have hbx:Bxx wa w.heap.size [.int .i64 0,.int .i64 0,.int .i64 0,.int .i64 0,.slice none 0 0,.slice none 0 0,.slice none 0 0,.slice none 0 0]:=by rw[hwa.out];exact Bxx.new _ _ _
 have hs:=hbx.lt;have oa:af K w wa:=af.of_later la;have hKl:=h.ps.box.lt;have hK:w.heap.size≠K:=by omega
 go_enter Tryz.func102,Tryz.ntmps102;go_wp2_with fail
 rw[<-hwa.out]
 cases q1:pE E f i with
 | error k =>
  refine (rP ha hf q1).mono ?_;rintro e w1 ⟨rfl,o9⟩;have HZ:=HNo.out _ w1 (by rw[<-HR.out];unfold yG;rw[q1];rfl) (oa.trans o9);go_wp2_with fail
  exact⟨rfl,HZ⟩
 | ok y =>
  obtain⟨c,j⟩:=y;have hadv:=(gX h.fit f).1 _ _ _ q1;refine (mF ha hf q1).mono ?_;rintro e w1 ⟨a0,n0,c0,a1,n1,c1,F,rfl,o1,h1,ho,fp⟩;have hr2:(PR.andThen (pB E f j) fun b i=>.ok (St.mk 3 0 0 0 [] [c] b [],i))=r:=by rw[<-HR.out];unfold yG;rw[q1];rfl
  have s1:=o1.size;have hlF:=ai.lt _ ho;obtain⟨wk,hwk⟩:=hidx (w1.alloc (.cells #[.int .i64 c.kind,.int .i64 c.n,.int .i64 c.tk,.int .i64 c.tn,.slice a0 n0 c0,.slice a1 n1 c1] 148));have lk:Later w1 wk:=by rw[hwk.out];exact ae _ _
  have sk:wk.heap.size=w1.heap.size+1:=by rw[hwk.out];simp
  have hkids:ai wk (.list 6 (Ex.ah [c])) [.slice (some ⟨w1.heap.size,0,none⟩) 1 1] (w1.heap.size::F):=by rw[hwk.out];exact sS ho
  obtain⟨ws,hws⟩:=hidx (wk.alloc (.cells #[.int .i64 3,.int .i64 0,.int .i64 0,.int .i64 0,.slice none 0 0,.slice (some ⟨w1.heap.size,0,none⟩) 1 1,.slice none 0 0,.slice none 0 0] 110));have ls:Later wk ws:=by rw[hws.out];exact ae _ _
  have ss:ws.heap.size=w1.heap.size+1+1:=by rw[hws.out];simp[sk]
  have hbs:Bxx ws (w1.heap.size+1) [.int .i64 3,.int .i64 0,.int .i64 0,.int .i64 0,.slice none 0 0,.slice (some ⟨w1.heap.size,0,none⟩) 1 1,.slice none 0 0,.slice none 0 0]:=by rw[hws.out,<- sk];exact Bxx.new _ _ _
  have l1s:=lk.trans ls;have hS:=h1.later l1s;have oS:=(oa.trans o1).trans (af.of_later l1s);have bS:=(hbx.only o1 hK).later l1s;have hkS:=fE hkids ls;have fk:aJ TB (w.heap.size+1) i j (w1.heap.size::F):=(aJ.cons fp hlF s1).mono hs (Nat.le_refl _) (Nat.le_refl _);have hlk:∀ b∈w1.heap.size::F,b<ws.heap.size:=ai.lt _ hkS;have hKB:w1.heap.size+1≠K:=by have:=h1.ps.box.lt;omega
  have hRB:w.heap.size≠w1.heap.size+1:=by omega
  have hBk:w1.heap.size+1∉w1.heap.size::F:=fun q=>by rcases List.mem_cons.1 q with q|q <;> first|omega|(have:=hlF _ q;omega)
  have hKk:K∉w1.heap.size::F:=fk.iy (by omega) h.kt;have hBT:∀ k,w1.heap.size+1∉TB k:=fun k q=>by have:=h.tb.lt k _ q;omega
  clear HR hkids ho;go_wp2_with fail
  rw[<-hwk.out,<- hws.out]
  cases q2:pB E f j with
  | error k =>
   refine (GR HB hS (by omega) q2).mono ?_;rintro e w2 ⟨rfl,o9⟩;have HZ:=HNo.out _ w2 (by rw[<-hr2,q2];rfl) (oS.trans o9);go_wp2_with fail
   exact⟨rfl,HZ⟩
  | ok y =>
   obtain⟨b,j2⟩:=y;have hadv2:=(uZ h.fit f).2.1 _ _ _ q2;refine (BC HB hS (by omega) q2).mono ?_;rintro e w2 ⟨ba,bn,bc,G,rfl,o2,h2,hG,fG⟩;have hbs2:=hbs.only o2 hKB;have hk2:=aI hkS o2 hKk;have s2:=o2.size;have hBG:w1.heap.size+1∉G:=fG.iy (by omega) hBT;have hKG:K∉G:=fG.iy (by omega) h.kt;have hlG:=ai.lt _ hG;have fkG:aJ TB (w.heap.size+1) i j2 ((w1.heap.size::F)++G):=aJ.app (h.tb.mono (Nat.le_succ _)) fk hlk (by omega) fG (Nat.le_refl _) (by omega) (by omega);obtain⟨wc,hwc⟩:=hidx (w2.setCell ⟨w1.heap.size+1,6,none⟩ (.slice ba bn bc));have oc0:af (w1.heap.size+1) w2 wc:=by rw[hwc.out];exact (af.refl _ w2).set 6 _
   have hbs3:Bxx wc (w1.heap.size+1) [.int .i64 3,.int .i64 0,.int .i64 0,.int .i64 0,.slice none 0 0,.slice (some ⟨w1.heap.size,0,none⟩) 1 1,.slice ba bn bc,.slice none 0 0]:=by rw[hwc.out];exact hbs2.set 6 _ (by simp)
   have oc:af K w wc:=by rw[hwc.out];exact (oS.trans o2).iG (by omega) 6 _
   have hc:Pz E TX TB en S K tv sv fv wc j2:=h.adv oc (h2.ps.box.only oc0 (Ne.symm hKB)) h2.ps.le;have bc3:=(bS.only o2 hK).only oc0 hRB;have hk3:=aI hk2 oc0 hBk;have hG3:=aI hG oc0 hBG;obtain⟨⟨⟨x0,f0⟩,⟨x1,f1⟩,⟨x2,f2⟩,⟨x3,f3⟩,⟨x4,f4⟩,⟨x5,f5⟩,⟨x6,f6⟩,⟨x7,f7⟩⟩,xl⟩:=hbs2.eight;obtain⟨W,hW,hXW,HZ⟩:=kz (r:=r) (j:=j2) (kd:=3) (n:=0) (tk:=0) (tn:=0) (nm:=[]) (ks:=[c]) (bs:=b) (es:=[]) (F0:=[]) (F3:=[]) h (by rw[<-hr2,q2];rfl) oc hc.ps bc3 (gu _) hk3 hG3 (iV _) (by rw[List.nil_append,List.append_nil];exact fkG);clear hr2 q2 hG hk2 hk3 hG3;go_upto_region 3 with fail
   rw[<-hwc.out];clear x0 f0 x1 f1 x2 f2 x3 f3 x4 f4 x5 f5 x6 f6 x7 f7 xl;obtain⟨⟨⟨z0,y0⟩,⟨z1,y1⟩,⟨z2,y2⟩,⟨z3,y3⟩,⟨z4,y4⟩,⟨z5,y5⟩,⟨z6,y6⟩,⟨z7,y7⟩⟩,zl⟩:=hbs3.eight;obtain⟨⟨⟨x0,f0⟩,⟨x1,f1⟩,⟨x2,f2⟩,⟨x3,f3⟩,⟨x4,f4⟩,⟨x5,f5⟩,⟨x6,f6⟩,⟨x7,f7⟩⟩,xl⟩:=bc3.eight;obtain⟨⟨⟨e0,_⟩,⟨e1,_⟩,⟨e2,_⟩,⟨e3,_⟩,⟨e4,_⟩,⟨e5,_⟩,⟨e6,_⟩,⟨e7,_⟩⟩,_⟩:=hXW.eight
   generalize PcP E TX TB en S K tv sv fv w r (gU TB w.heap.size i)=Q at *
   clear HNo hXW HB;go_wp2_with fail
   rw[<-hW.out];exact bodyPost_ret (v:=.agg #[.int .i64 3,.int .i64 0,.int .i64 0,.int .i64 0,.slice none 0 0,.slice (some ⟨w1.heap.size,0,none⟩) 1 1,.slice ba bn bc,.slice none 0 0]) (by simp[results,Tryz.results102,go_sem,e0,e1,e2,e3,e4,e5,e6,e7]) rfl HZ.out
theorem Df {f:Nat}(HB:BkC f) (E:ak) (TX:Nat->Value) (TB:Nat->List Nat) (en:Int) (S:List Sc) (K:Nat) (tv sv fv:Value) (w:World) (i:Nat) (h:Pz E TX TB en S K tv sv fv w i) (hf:4*(E.l.length - i)+3<=f):Calls Tryz.prog 101 #[.pointer (some ⟨K,0,none⟩)] w (PcP E TX TB en S K tv sv fv w (Fa E f i) (gU TB w.heap.size i)):=by
 have HNo:Hid (∀ k w',Fa E f i=.error k->af K w w'->PcP E TX TB en S K tv sv fv w (Fa E f i) (gU TB w.heap.size i) (.panicked [{ v:=.iface 36 (.int .i64 (E.pos en k)),recovered:=false }]) w'):=fun k w' e o=>PcP.no e o
 generalize hr:Fa E f i=r at *
 have HR:Hid _:=hr;clear hr;obtain⟨wa,hwa⟩:=hidx (w.alloc (.cells #[.int .i64 0,.int .i64 0,.int .i64 0,.int .i64 0,.slice none 0 0,.slice none 0 0,.slice none 0 0,.slice none 0 0] 110));have la:Later w wa:=by rw[hwa.out];exact ae _ _
 have ha:=h.later la;have hbx:Bxx wa w.heap.size [.int .i64 0,.int .i64 0,.int .i64 0,.int .i64 0,.slice none 0 0,.slice none 0 0,.slice none 0 0,.slice none 0 0]:=by rw[hwa.out];exact Bxx.new _ _ _
 have hs:=hbx.lt;have oa:af K w wa:=af.of_later la;have hKl:=h.ps.box.lt;have hK:w.heap.size≠K:=by omega
 go_enter Tryz.func101,Tryz.ntmps101;go_wp2_with fail
 rw[<-hwa.out]
 cases q1:pE E f i with
 | error k =>
  refine (rP ha hf q1).mono ?_;rintro e w1 ⟨rfl,o9⟩;have HZ:=HNo.out _ w1 (by rw[<-HR.out];unfold Fa;rw[q1];rfl) (oa.trans o9);go_wp2_with fail
  exact⟨rfl,HZ⟩
 | ok y =>
  obtain⟨c,j⟩:=y;have hadv:=(gX h.fit f).1 _ _ _ q1;refine (mF ha hf q1).mono ?_;rintro e w1 ⟨a0,n0,c0,a1,n1,c1,F,rfl,o1,h1,ho,fp⟩;have hr2:(PR.andThen (pB E f j) fun b i=>PR.andThen (aG E [101,108,115,101] i) fun _ i=>PR.andThen (pB E f i) fun d i=>.ok (St.mk 2 0 0 0 [] [c] b d,i))=r:=by rw[<-HR.out];unfold Fa;rw[q1];rfl
  have s1:=o1.size;have hlF:=ai.lt _ ho;obtain⟨wk,hwk⟩:=hidx (w1.alloc (.cells #[.int .i64 c.kind,.int .i64 c.n,.int .i64 c.tk,.int .i64 c.tn,.slice a0 n0 c0,.slice a1 n1 c1] 148));have lk:Later w1 wk:=by rw[hwk.out];exact ae _ _
  have sk:wk.heap.size=w1.heap.size+1:=by rw[hwk.out];simp
  have hkids:ai wk (.list 6 (Ex.ah [c])) [.slice (some ⟨w1.heap.size,0,none⟩) 1 1] (w1.heap.size::F):=by rw[hwk.out];exact sS ho
  obtain⟨ws,hws⟩:=hidx (wk.alloc (.cells #[.int .i64 2,.int .i64 0,.int .i64 0,.int .i64 0,.slice none 0 0,.slice (some ⟨w1.heap.size,0,none⟩) 1 1,.slice none 0 0,.slice none 0 0] 110));have ls:Later wk ws:=by rw[hws.out];exact ae _ _
  have ss:ws.heap.size=w1.heap.size+1+1:=by rw[hws.out];simp[sk]
  have hbs:Bxx ws (w1.heap.size+1) [.int .i64 2,.int .i64 0,.int .i64 0,.int .i64 0,.slice none 0 0,.slice (some ⟨w1.heap.size,0,none⟩) 1 1,.slice none 0 0,.slice none 0 0]:=by rw[hws.out,<- sk];exact Bxx.new _ _ _
  have l1s:=lk.trans ls;have hS:=h1.later l1s;have oS:=(oa.trans o1).trans (af.of_later l1s);have bS:=(hbx.only o1 hK).later l1s;have hkS:=fE hkids ls;have fk:aJ TB (w.heap.size+1) i j (w1.heap.size::F):=(aJ.cons fp hlF s1).mono hs (Nat.le_refl _) (Nat.le_refl _);have hlk:∀ b∈w1.heap.size::F,b<ws.heap.size:=ai.lt _ hkS;have hKB:w1.heap.size+1≠K:=by have:=h1.ps.box.lt;omega
  have hRB:w.heap.size≠w1.heap.size+1:=by omega
  have hBk:w1.heap.size+1∉w1.heap.size::F:=fun q=>by rcases List.mem_cons.1 q with q|q <;> first|omega|(have:=hlF _ q;omega)
  have hKk:K∉w1.heap.size::F:=fk.iy (by omega) h.kt;have hBT:∀ k,w1.heap.size+1∉TB k:=fun k q=>by have:=h.tb.lt k _ q;omega
  clear HR hkids ho;go_wp2_with fail
  rw[<-hwk.out,<- hws.out]
  cases q2:pB E f j with
  | error k =>
   refine (GR HB hS (by omega) q2).mono ?_;rintro e w2 ⟨rfl,o9⟩;have HZ:=HNo.out _ w2 (by rw[<-hr2,q2];rfl) (oS.trans o9);go_wp2_with fail
   exact⟨rfl,HZ⟩
  | ok y =>
   obtain⟨b,j2⟩:=y;have hadv2:=(uZ h.fit f).2.1 _ _ _ q2;refine (BC HB hS (by omega) q2).mono ?_;rintro e w2 ⟨ba,bn,bc,G,rfl,o2,h2,hG,fG⟩;have hbs2:=hbs.only o2 hKB;have hk2:=aI hkS o2 hKk;have s2:=o2.size;have hBG:w1.heap.size+1∉G:=fG.iy (by omega) hBT;have hKG:K∉G:=fG.iy (by omega) h.kt;have hlG:=ai.lt _ hG;have fkG:aJ TB (w.heap.size+1) i j2 ((w1.heap.size::F)++G):=aJ.app (h.tb.mono (Nat.le_succ _)) fk hlk (by omega) fG (Nat.le_refl _) (by omega) (by omega);obtain⟨wc,hwc⟩:=hidx (w2.setCell ⟨w1.heap.size+1,6,none⟩ (.slice ba bn bc));have oc0:af (w1.heap.size+1) w2 wc:=by rw[hwc.out];exact (af.refl _ w2).set 6 _
   have hbs3:Bxx wc (w1.heap.size+1) [.int .i64 2,.int .i64 0,.int .i64 0,.int .i64 0,.slice none 0 0,.slice (some ⟨w1.heap.size,0,none⟩) 1 1,.slice ba bn bc,.slice none 0 0]:=by rw[hwc.out];exact hbs2.set 6 _ (by simp)
   have oc:af K w wc:=by rw[hwc.out];exact (oS.trans o2).iG (by omega) 6 _
   have hc:Pz E TX TB en S K tv sv fv wc j2:=h.adv oc (h2.ps.box.only oc0 (Ne.symm hKB)) h2.ps.le;have bc3:=(bS.only o2 hK).only oc0 hRB;have hk3:=aI hk2 oc0 hBk;have hG3:=aI hG oc0 hBG;obtain⟨⟨⟨x0,f0⟩,⟨x1,f1⟩,⟨x2,f2⟩,⟨x3,f3⟩,⟨x4,f4⟩,⟨x5,f5⟩,⟨x6,f6⟩,⟨x7,f7⟩⟩,xl⟩:=hbs2.eight;have hr3:(PR.andThen (aG E [101,108,115,101] j2) fun _ i=>PR.andThen (pB E f i) fun d i=>.ok (St.mk 2 0 0 0 [] [c] b d,i))=r:=by rw[<-hr2,q2];rfl
   clear hr2 q2 hG hk2;go_wp2_with fail
   rw[<-hwc.out];clear x0 f0 x1 f1 x2 f2 x3 f3 x4 f4 x5 f5 x6 f6 x7 f7 xl;by_cases q3:E.txt j2=[101,108,115,101]
   ·have hil:=ak.aX (E:=E) (i:=j2) (by rw[q3];decide);refine (df hc.ps _ _ FH (by decide) q3).mono ?_;rintro e w3 ⟨rfl,o3,p3⟩;have h3:=hc.go o3 p3;have o03:=oc.trans o3;have hbs4:=hbs3.only o3 hKB;have b4:=bc3.only o3 hK;have hk4:=aI hk3 o3 hKk;have hG4:=aI hG3 o3 hKG
    have s3:=(oc0.size)
    have s4:=o3.size;have hr4:(PR.andThen (pB E f (j2+1)) fun d i=>.ok (St.mk 2 0 0 0 [] [c] b d,i))=r:=by rw[<-hr3];unfold aG;rw[if_pos q3];rfl
    clear hr3;go_wp2_with fail
    cases q4:pB E f (j2+1) with
    | error k =>
     refine (GR HB h3 (by omega) q4).mono ?_;rintro e w4 ⟨rfl,o9⟩;have HZ:=HNo.out _ w4 (by rw[<-hr4,q4];rfl) (o03.trans o9);go_wp2_with fail
     exact⟨rfl,HZ⟩
    | ok y =>
     obtain⟨d,j3⟩:=y;have hadv3:=(uZ h.fit f).2.1 _ _ _ q4;refine (BC HB h3 (by omega) q4).mono ?_;rintro e w4 ⟨da,dn,dc,D,rfl,o4,h4,hD,fD⟩;have hbs5:=hbs4.only o4 hKB;have hk5:=aI hk4 o4 hKk;have hG5:=aI hG4 o4 hKG;have s5:=o4.size;have hBD:w1.heap.size+1∉D:=fD.iy (by omega) hBT;have hKD:K∉D:=fD.iy (by omega) h.kt;obtain⟨wd,hwd⟩:=hidx (w4.setCell ⟨w1.heap.size+1,7,none⟩ (.slice da dn dc));have od0:af (w1.heap.size+1) w4 wd:=by rw[hwd.out];exact (af.refl _ w4).set 7 _
     have hbs6:Bxx wd (w1.heap.size+1) [.int .i64 2,.int .i64 0,.int .i64 0,.int .i64 0,.slice none 0 0,.slice (some ⟨w1.heap.size,0,none⟩) 1 1,.slice ba bn bc,.slice da dn dc]:=by rw[hwd.out];exact hbs5.set 7 _ (by simp)
     have od:af K w wd:=by rw[hwd.out];exact (o03.trans o4).iG (by omega) 7 _
     have hd:Pz E TX TB en S K tv sv fv wd j3:=h.adv od (h4.ps.box.only od0 (Ne.symm hKB)) h4.ps.le;have b6:=(b4.only o4 hK).only od0 hRB
     have fa:aJ TB (w.heap.size+1) i j3 (((w1.heap.size::F)++G)++D):=aJ.app (h.tb.mono (Nat.le_succ _)) fkG (fun b q=>by
      rcases List.mem_append.1 q with q|q
      ·have:=hlk b q;omega
      ·have:=hlG b q;omega) (by omega) fD (by omega) (by omega) (by omega)
     obtain⟨⟨⟨x0,f0⟩,⟨x1,f1⟩,⟨x2,f2⟩,⟨x3,f3⟩,⟨x4,f4⟩,⟨x5,f5⟩,⟨x6,f6⟩,⟨x7,f7⟩⟩,xl⟩:=hbs5.eight;obtain⟨W,hW,hXW,HZ⟩:=kz (r:=r) (j:=j3) (kd:=2) (n:=0) (tk:=0) (tn:=0) (nm:=[]) (ks:=[c]) (bs:=b) (es:=d) (F0:=[]) h (by rw[<-hr4,q4];rfl) od hd.ps b6 (gu _) (aI hk5 od0 hBk) (aI hG5 od0 hBG) (aI hD od0 hBD) (by rw[List.nil_append,<- List.append_assoc];exact fa);clear hr4 q4 hD hG5 hk5;go_upto_region 5 with fail
     rw[<-hwd.out];clear x0 f0 x1 f1 x2 f2 x3 f3 x4 f4 x5 f5 x6 f6 x7 f7 xl;obtain⟨⟨⟨z0,y0⟩,⟨z1,y1⟩,⟨z2,y2⟩,⟨z3,y3⟩,⟨z4,y4⟩,⟨z5,y5⟩,⟨z6,y6⟩,⟨z7,y7⟩⟩,zl⟩:=hbs6.eight;obtain⟨⟨⟨x0,f0⟩,⟨x1,f1⟩,⟨x2,f2⟩,⟨x3,f3⟩,⟨x4,f4⟩,⟨x5,f5⟩,⟨x6,f6⟩,⟨x7,f7⟩⟩,xl⟩:=b6.eight;obtain⟨⟨⟨e0,_⟩,⟨e1,_⟩,⟨e2,_⟩,⟨e3,_⟩,⟨e4,_⟩,⟨e5,_⟩,⟨e6,_⟩,⟨e7,_⟩⟩,_⟩:=hXW.eight
     generalize PcP E TX TB en S K tv sv fv w r (gU TB w.heap.size i)=Q at *
     clear HNo hXW HB;go_wp2_with fail
     rw[<-hW.out];exact bodyPost_ret (v:=.agg #[.int .i64 2,.int .i64 0,.int .i64 0,.int .i64 0,.slice none 0 0,.slice (some ⟨w1.heap.size,0,none⟩) 1 1,.slice ba bn bc,.slice da dn dc]) (by simp[results,Tryz.results101,go_sem,e0,e1,e2,e3,e4,e5,e6,e7]) rfl HZ.out
   ·refine (dN hc.ps _ _ FH (by decide) q3).mono ?_;rintro e w3 ⟨rfl,o3⟩;have HZ:=HNo.out _ w3 (by rw[<-hr3];unfold aG;rw[if_neg q3];rfl) (oc.trans o3);go_wp2_with fail
    exact⟨rfl,HZ⟩
end Go.Proofs.YtgaddpkkjebekaaGreatDoor
