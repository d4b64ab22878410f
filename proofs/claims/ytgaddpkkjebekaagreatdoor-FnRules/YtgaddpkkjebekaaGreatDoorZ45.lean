import Derived.Test.YtgaddpkkjebekaaGreatDoorZ44
import Derived.Test.YtgaddpkkjebekaaGreatDoorZ06
set_option maxHeartbeats 100000000
set_option maxRecDepth 100000
namespace Go.Proofs.YtgaddpkkjebekaaGreatDoor
open Go.RowKit Go.Maps
def yD (E:ak) (f i:Nat):PR St:=if E.txt i=[59] then gI E 4 [] i else PR.andThen (pE E f i) fun c i=>gI E 4 [c] i
def Ff (E:ak) (f i:Nat):PR St:=PR.andThen (pE E f i) fun c j=>if c.kind=6 then gI E 7 [c] j else .error i
def yC (E:ak) (f i:Nat):PR St:=PR.andThen (pE E f i) fun c j=>if c.kind=3\/c.kind=7\/c.kind=8 then PR.andThen (aG E [61] j) fun _ j=>PR.andThen (pE E f j) fun d j=>gI E 1 [c,d] j else .error i
theorem O8 {w:World}{x y:Ex}{a0:Option Addr}{n0 c0:Nat}{a1:Option Addr}{n1 c1:Nat}{F:List Nat}{b0:Option Addr}{m0 d0:Nat}{b1:Option Addr}{m1 d1:Nat}{G:List Nat}(h:ai w x.dat [.int .i64 x.kind,.int .i64 x.n,.int .i64 x.tk,.int .i64 x.tn,.slice a0 n0 c0,.slice a1 n1 c1] F) (k:ai w y.dat [.int .i64 y.kind,.int .i64 y.n,.int .i64 y.tk,.int .i64 y.tn,.slice b0 m0 d0,.slice b1 m1 d1] G):ai (w.alloc (.cells #[.int .i64 x.kind,.int .i64 x.n,.int .i64 x.tk,.int .i64 x.tn,.slice a0 n0 c0,.slice a1 n1 c1,.int .i64 y.kind,.int .i64 y.n,.int .i64 y.tk,.int .i64 y.tn,.slice b0 m0 d0,.slice b1 m1 d1] 148)) (.list 6 (Ex.ah [x,y])) [.slice (some ⟨w.heap.size,0,none⟩) 2 2] (w.heap.size::(F++G)):=by
 rw[Ex.ah,Ex.ah,Ex.ah];exact xU (Bxx.new w #[.int .i64 x.kind,.int .i64 x.n,.int .i64 x.tk,.int .i64 x.tn,.slice a0 n0 c0,.slice a1 n1 c1,.int .i64 y.kind,.int .i64 y.n,.int .i64 y.tk,.int .i64 y.tn,.slice b0 m0 d0,.slice b1 m1 d1] 148) rfl rfl (fE h (ae _ _)) (fE k (ae _ _))
theorem AC {f:Nat}(E:ak) (TX:Nat->Value) (TB:Nat->List Nat) (en:Int) (S:List Sc) (K:Nat) (tv sv fv:Value) (w:World) (i:Nat) (h:Pz E TX TB en S K tv sv fv w i) (hf:4*(E.l.length - i)+3<=f):Calls Tryz.prog 103 #[.pointer (some ⟨K,0,none⟩)] w (PcP E TX TB en S K tv sv fv w (yD E f i) (gU TB w.heap.size i)):=by
 have HNo:Hid (∀ k w',yD E f i=.error k->af K w w'->PcP E TX TB en S K tv sv fv w (yD E f i) (gU TB w.heap.size i) (.panicked [{ v:=.iface 36 (.int .i64 (E.pos en k)),recovered:=false }]) w'):=fun k w' e o=>PcP.no e o
 generalize hr:yD E f i=r at *
 have HR:Hid _:=hr;clear hr;obtain⟨wa,hwa⟩:=hidx (w.alloc (.cells #[.int .i64 0,.int .i64 0,.int .i64 0,.int .i64 0,.slice none 0 0,.slice none 0 0,.slice none 0 0,.slice none 0 0] 110));have la:Later w wa:=by rw[hwa.out];exact ae _ _
 have ha:=h.later la;have hbx:Bxx wa w.heap.size [.int .i64 0,.int .i64 0,.int .i64 0,.int .i64 0,.slice none 0 0,.slice none 0 0,.slice none 0 0,.slice none 0 0]:=by rw[hwa.out];exact Bxx.new _ _ _
 have hs:=hbx.lt;have oa:af K w wa:=af.of_later la;have hKl:=h.ps.box.lt;have hK:w.heap.size≠K:=by omega
 go_enter Tryz.func103,Tryz.ntmps103;go_wp2_with fail
 rw[<-hwa.out];refine (nT E TX TB en S K tv sv fv wa i ha.ps _ _ lh).mono ?_;rintro e w0 ⟨rfl,l0⟩;have h0:=ha.later l0;have o0:=oa.trans (af.of_later l0);have b0:=hbx.later l0;have s0:=b0.lt;by_cases q1:E.txt i=[59]
 ·rw[decide_eq_true q1];have hr2:gI E 4 [] i=r:=by rw[<-HR.out];unfold yD;rw[if_pos q1]
  go_wp2_with fail
  refine (tu h0 4 none 0 0 q1).mono ?_;rintro e w9 ⟨rfl,o9,h9⟩;obtain⟨W,hW,hXW,HZ⟩:=kz (r:=r) (j:=i+1) (kd:=4) (n:=0) (tk:=0) (tn:=0) (nm:=[]) (ks:=[]) (bs:=[]) (es:=[]) (F0:=[]) (F1:=[]) (F2:=[]) (F3:=[]) h (by rw[<-hr2];exact jP q1) (o0.trans o9) h9.ps (b0.only o9 hK) (gu _) (OM _) (iV _) (iV _) (aJ.nil _ _ _ _);obtain⟨⟨⟨x0,f0⟩,⟨x1,f1⟩,⟨x2,f2⟩,⟨x3,f3⟩,⟨x4,f4⟩,⟨x5,f5⟩,⟨x6,f6⟩,⟨x7,f7⟩⟩,xl⟩:=(b0.only o9 hK).eight;obtain⟨⟨⟨e0,_⟩,⟨e1,_⟩,⟨e2,_⟩,⟨e3,_⟩,⟨e4,_⟩,⟨e5,_⟩,⟨e6,_⟩,⟨e7,_⟩⟩,_⟩:=hXW.eight
  generalize PcP E TX TB en S K tv sv fv w r (gU TB w.heap.size i)=Q at *
  clear HNo hXW HR hr2;go_wp2_with fail
  rw[<-hW.out];exact bodyPost_ret (v:=.agg #[.int .i64 4,.int .i64 0,.int .i64 0,.int .i64 0,.slice none 0 0,.slice none 0 0,.slice none 0 0,.slice none 0 0]) (by simp[results,Tryz.results103,go_sem,e0,e1,e2,e3,e4,e5,e6,e7]) rfl HZ.out
 ·rw[decide_eq_false q1];have hr2:(PR.andThen (pE E f i) fun c i=>gI E 4 [c] i)=r:=by rw[<-HR.out];unfold yD;rw[if_neg q1]
  clear HR;go_wp2_with fail
  cases q2:pE E f i with
  | error k =>
   refine (rP h0 hf q2).mono ?_;rintro e w1 ⟨rfl,o9⟩;have HZ:=HNo.out _ w1 (by rw[<-hr2,q2];rfl) (o0.trans o9);go_wp2_with fail
   exact⟨rfl,HZ⟩
  | ok y =>
   obtain⟨c,j⟩:=y;have hadv:=(gX h.fit f).1 _ _ _ q2;refine (mF h0 hf q2).mono ?_;rintro e w1 ⟨a0,n0,c0,a1,n1,c1,F,rfl,o1,h1,ho,fp⟩;have s1:=o1.size;have hlF:=ai.lt _ ho;obtain⟨wk,hwk⟩:=hidx (w1.alloc (.cells #[.int .i64 c.kind,.int .i64 c.n,.int .i64 c.tk,.int .i64 c.tn,.slice a0 n0 c0,.slice a1 n1 c1] 148));have lk:Later w1 wk:=by rw[hwk.out];exact ae _ _
   have hkids:ai wk (.list 6 (Ex.ah [c])) [.slice (some ⟨w1.heap.size,0,none⟩) 1 1] (w1.heap.size::F):=by rw[hwk.out];exact sS ho
   have hk:=h1.later lk;have ok:=(o0.trans o1).trans (af.of_later lk);have bk:=(b0.only o1 hK).later lk;have fk:aJ TB (w.heap.size+1) i j (w1.heap.size::F):=aJ.cons (fp.mono (by omega) (Nat.le_refl _) (Nat.le_refl _)) hlF (by omega);have hKk:K∉w1.heap.size::F:=fk.iy (by omega) h.kt;have hr3:gI E 4 [c] j=r:=by rw[<-hr2,q2];rfl
   clear hr2 q2 ho;go_wp2_with fail
   rw[<-hwk.out];by_cases q9:E.txt j=[59]
   ·refine (tu hk 4 (some ⟨w1.heap.size,0,none⟩) 1 1 q9).mono ?_;rintro e w9 ⟨rfl,o9,h9⟩;obtain⟨W,hW,hXW,HZ⟩:=kz (r:=r) (j:=j+1) (kd:=4) (n:=0) (tk:=0) (tn:=0) (nm:=[]) (ks:=[c]) (bs:=[]) (es:=[]) (F0:=[]) (F2:=[]) (F3:=[]) h (by rw[<-hr3];exact jP q9) (ok.trans o9) h9.ps (bk.only o9 hK) (gu _) (aI hkids o9 hKk) (iV _) (iV _) (by rw[List.nil_append,List.append_nil,List.append_nil];exact fk.mono (Nat.le_refl _) (Nat.le_refl _) (Nat.le_succ _));obtain⟨⟨⟨x0,f0⟩,⟨x1,f1⟩,⟨x2,f2⟩,⟨x3,f3⟩,⟨x4,f4⟩,⟨x5,f5⟩,⟨x6,f6⟩,⟨x7,f7⟩⟩,xl⟩:=(bk.only o9 hK).eight;obtain⟨⟨⟨e0,_⟩,⟨e1,_⟩,⟨e2,_⟩,⟨e3,_⟩,⟨e4,_⟩,⟨e5,_⟩,⟨e6,_⟩,⟨e7,_⟩⟩,_⟩:=hXW.eight
    generalize PcP E TX TB en S K tv sv fv w r (gU TB w.heap.size i)=Q at *
    clear HNo hXW;go_wp2_with fail
    rw[<-hW.out];exact bodyPost_ret (v:=.agg #[.int .i64 4,.int .i64 0,.int .i64 0,.int .i64 0,.slice none 0 0,.slice (some ⟨w1.heap.size,0,none⟩) 1 1,.slice none 0 0,.slice none 0 0]) (by simp[results,Tryz.results103,go_sem,e0,e1,e2,e3,e4,e5,e6,e7]) rfl HZ.out
   ·refine (yt hk 4 (some ⟨w1.heap.size,0,none⟩) 1 1 q9).mono ?_;rintro e w9 ⟨rfl,o9⟩;have HZ:=HNo.out _ w9 (by rw[<-hr3];exact oM q9) (ok.trans o9);go_wp2_with fail
    exact⟨rfl,HZ⟩
theorem Di {f:Nat}(E:ak) (TX:Nat->Value) (TB:Nat->List Nat) (en:Int) (S:List Sc) (K:Nat) (tv sv fv:Value) (w:World) (i:Nat) (h:Pz E TX TB en S K tv sv fv w i) (hf:4*(E.l.length - i)+3<=f):Calls Tryz.prog 106 #[.pointer (some ⟨K,0,none⟩)] w (PcP E TX TB en S K tv sv fv w (Ff E f i) (gU TB w.heap.size i)):=by
 have HNo:Hid (∀ k w',Ff E f i=.error k->af K w w'->PcP E TX TB en S K tv sv fv w (Ff E f i) (gU TB w.heap.size i) (.panicked [{ v:=.iface 36 (.int .i64 (E.pos en k)),recovered:=false }]) w'):=fun k w' e o=>PcP.no e o
 generalize hr:Ff E f i=r at *
 have HR:Hid _:=hr;clear hr;obtain⟨wa,hwa⟩:=hidx (w.alloc (.cells #[.int .i64 0,.int .i64 0,.int .i64 0,.int .i64 0,.slice none 0 0,.slice none 0 0,.slice none 0 0,.slice none 0 0] 110));have la:Later w wa:=by rw[hwa.out];exact ae _ _
 have ha:=h.later la;have hbx:Bxx wa w.heap.size [.int .i64 0,.int .i64 0,.int .i64 0,.int .i64 0,.slice none 0 0,.slice none 0 0,.slice none 0 0,.slice none 0 0]:=by rw[hwa.out];exact Bxx.new _ _ _
 have hs:=hbx.lt;have oa:af K w wa:=af.of_later la;have hKl:=h.ps.box.lt;have hK:w.heap.size≠K:=by omega
 go_enter Tryz.func106,Tryz.ntmps106;go_wp2_with fail
 rw[<-hwa.out];have hp:=gm E TX TB en S K tv sv fv wa i ha.ps;obtain⟨xa,xc,hx,_⟩:=(h.ps.text i).slice;unfold tkV at hp;rw[hx]at hp;refine hp.mono ?_;rintro e w0 ⟨rfl,l0⟩;obtain⟨wt,hwt⟩:=hidx (w0.alloc (.cells #[.int .i64 (E.kind i),.int .i64 (E.pos en i),.int .i64 (E.num i),.slice xa (E.txt i).length xc] 45));have lt:Later wa wt:=by rw[hwt.out];exact l0.trans (ae _ _)
 have hbt:Bxx wt w0.heap.size [.int .i64 (E.kind i),.int .i64 (E.pos en i),.int .i64 (E.num i),.slice xa (E.txt i).length xc]:=by rw[hwt.out];exact Bxx.new _ _ _
 have h0:=ha.later lt;have o0:=oa.trans (af.of_later lt);have b0:=hbx.later lt;have s0:=b0.lt;have st0:wa.heap.size<=w0.heap.size:=l0.size;have hKt:w0.heap.size≠K:=by omega
 generalize (E.txt i).length=xn at *
 clear hp hx;go_wp2_with fail
 rw[<-hwt.out]
 cases q2:pE E f i with
 | error k =>
  refine (rP h0 hf q2).mono ?_;rintro e w1 ⟨rfl,o9⟩;have HZ:=HNo.out _ w1 (by rw[<-HR.out];unfold Ff;rw[q2];rfl) (o0.trans o9);go_wp2_with fail
  exact⟨rfl,HZ⟩
 | ok y =>
  obtain⟨c,j⟩:=y;have hadv:=(gX h.fit f).1 _ _ _ q2;refine (mF h0 hf q2).mono ?_;rintro e w1 ⟨a0,n0,c0,a1,n1,c1,F,rfl,o1,h1,ho,fp⟩;have s1:=o1.size;have hlF:=ai.lt _ ho;obtain⟨wb,hwb⟩:=hidx (w1.alloc (.cells #[.int .i64 c.kind,.int .i64 c.n,.int .i64 c.tk,.int .i64 c.tn,.slice a0 n0 c0,.slice a1 n1 c1] 148));have lb:Later w1 wb:=by rw[hwb.out];exact ae _ _
  have hbe:Bxx wb w1.heap.size [.int .i64 c.kind,.int .i64 c.n,.int .i64 c.tk,.int .i64 c.tn,.slice a0 n0 c0,.slice a1 n1 c1]:=by rw[hwb.out];exact Bxx.new _ _ _
  have hb:=h1.later lb;have ob:=(o0.trans o1).trans (af.of_later lb);have bb:=(b0.only o1 hK).later lb;have hob:=fE ho lb;have t1:=(((hbt.only o1 hKt).later lb).cell 1 _ rfl).1;have hKe:w1.heap.size≠K:=by have:=h1.ps.box.lt;omega
  have fpi:aJ TB (w.heap.size+1) i j F:=fp.mono (by omega) (Nat.le_refl _) (Nat.le_refl _);have hKF:K∉F:=fpi.iy (by omega) h.kt;obtain⟨⟨⟨z0,y0⟩,⟨z1,y1⟩,⟨z2,y2⟩,⟨z3,y3⟩,⟨z4,y4⟩,⟨z5,y5⟩⟩,zl⟩:=hbe.six;have hr2:(if c.kind=6 then gI E 7 [c] j else .error i)=r:=by rw[<-HR.out];unfold Ff;rw[q2];rfl
  clear HR q2 ho;go_upto_region 3 with fail
  rw[<-hwb.out];by_cases q3:c.kind=6
  ·have hr3:gI E 7 [c] j=r:=by rw[<-hr2,if_pos q3]
   clear hr2;have g3:(c.kind==6)=true:=by simp[q3]
   have g4:(c.kind != 6)=false:=by simp[q3]
   clear q3;obtain⟨wk,hwk⟩:=hidx (wb.alloc (.cells #[.int .i64 c.kind,.int .i64 c.n,.int .i64 c.tk,.int .i64 c.tn,.slice a0 n0 c0,.slice a1 n1 c1] 148));have lk:Later wb wk:=by rw[hwk.out];exact ae _ _
   have hkids:ai wk (.list 6 (Ex.ah [c])) [.slice (some ⟨wb.heap.size,0,none⟩) 1 1] (wb.heap.size::F):=by rw[hwk.out];exact sS hob
   have hk:=hb.later lk;have ok:=ob.trans (af.of_later lk);have bk:=bb.later lk;have hbl:=hbe.lt;have fk:aJ TB (w.heap.size+1) i j (wb.heap.size::F):=aJ.cons fpi (ai.lt _ hob) (by omega);have hKk:K∉wb.heap.size::F:=fk.iy (by omega) h.kt;clear hob;go_wp2_with fail
   rw[<-hwk.out];by_cases q9:E.txt j=[59]
   ·refine (tu hk 7 (some ⟨wb.heap.size,0,none⟩) 1 1 q9).mono ?_;rintro e w9 ⟨rfl,o9,h9⟩;obtain⟨W,hW,hXW,HZ⟩:=kz (r:=r) (j:=j+1) (kd:=7) (n:=0) (tk:=0) (tn:=0) (nm:=[]) (ks:=[c]) (bs:=[]) (es:=[]) (F0:=[]) (F2:=[]) (F3:=[]) h (by rw[<-hr3];exact jP q9) (ok.trans o9) h9.ps (bk.only o9 hK) (gu _) (aI hkids o9 hKk) (iV _) (iV _) (by rw[List.nil_append,List.append_nil,List.append_nil];exact fk.mono (Nat.le_refl _) (Nat.le_refl _) (Nat.le_succ _));obtain⟨⟨⟨x0,f0⟩,⟨x1,f1⟩,⟨x2,f2⟩,⟨x3,f3⟩,⟨x4,f4⟩,⟨x5,f5⟩,⟨x6,f6⟩,⟨x7,f7⟩⟩,xl⟩:=(bk.only o9 hK).eight;obtain⟨⟨⟨e0,_⟩,⟨e1,_⟩,⟨e2,_⟩,⟨e3,_⟩,⟨e4,_⟩,⟨e5,_⟩,⟨e6,_⟩,⟨e7,_⟩⟩,_⟩:=hXW.eight
    generalize PcP E TX TB en S K tv sv fv w r (gU TB w.heap.size i)=Q at *
    clear HNo hXW;go_wp2_with fail
    rw[<-hW.out];exact bodyPost_ret (v:=.agg #[.int .i64 7,.int .i64 0,.int .i64 0,.int .i64 0,.slice none 0 0,.slice (some ⟨wb.heap.size,0,none⟩) 1 1,.slice none 0 0,.slice none 0 0]) (by simp[results,Tryz.results106,go_sem,e0,e1,e2,e3,e4,e5,e6,e7]) rfl HZ.out
   ·refine (yt hk 7 (some ⟨wb.heap.size,0,none⟩) 1 1 q9).mono ?_;rintro e w9 ⟨rfl,o9⟩;have HZ:=HNo.out _ w9 (by rw[<-hr3];exact oM q9) (ok.trans o9);go_wp2_with fail
    exact⟨rfl,HZ⟩
  ·have g3:(c.kind != 6)=true:=by simp[q3]
   have HZ:=HNo.out i wb (by rw[<-hr2,if_neg q3]) ob;clear hr2 q3;go_wp2_with fail
   exact⟨rfl,HZ⟩
theorem AB {f:Nat}(E:ak) (TX:Nat->Value) (TB:Nat->List Nat) (en:Int) (S:List Sc) (K:Nat) (tv sv fv:Value) (w:World) (i:Nat) (h:Pz E TX TB en S K tv sv fv w i) (hf:4*(E.l.length - i)+3<=f):Calls Tryz.prog 107 #[.pointer (some ⟨K,0,none⟩)] w (PcP E TX TB en S K tv sv fv w (yC E f i) (gU TB w.heap.size i)):=by
 have HNo:Hid (∀ k w',yC E f i=.error k->af K w w'->PcP E TX TB en S K tv sv fv w (yC E f i) (gU TB w.heap.size i) (.panicked [{ v:=.iface 36 (.int .i64 (E.pos en k)),recovered:=false }]) w'):=fun k w' e o=>PcP.no e o
 generalize hr:yC E f i=r at *
 have HR:Hid _:=hr;clear hr;obtain⟨wa,hwa⟩:=hidx (w.alloc (.cells #[.int .i64 0,.int .i64 0,.int .i64 0,.int .i64 0,.slice none 0 0,.slice none 0 0,.slice none 0 0,.slice none 0 0] 110));have la:Later w wa:=by rw[hwa.out];exact ae _ _
 have ha:=h.later la;have hbx:Bxx wa w.heap.size [.int .i64 0,.int .i64 0,.int .i64 0,.int .i64 0,.slice none 0 0,.slice none 0 0,.slice none 0 0,.slice none 0 0]:=by rw[hwa.out];exact Bxx.new _ _ _
 have hs:=hbx.lt;have oa:af K w wa:=af.of_later la;have hKl:=h.ps.box.lt;have hK:w.heap.size≠K:=by omega
 go_enter Tryz.func107,Tryz.ntmps107;go_wp2_with fail
 rw[<-hwa.out];have hp:=gm E TX TB en S K tv sv fv wa i ha.ps;obtain⟨xa,xc,hx,_⟩:=(h.ps.text i).slice;unfold tkV at hp;rw[hx]at hp;refine hp.mono ?_;rintro e w0 ⟨rfl,l0⟩;obtain⟨wt,hwt⟩:=hidx (w0.alloc (.cells #[.int .i64 (E.kind i),.int .i64 (E.pos en i),.int .i64 (E.num i),.slice xa (E.txt i).length xc] 45));have lt:Later wa wt:=by rw[hwt.out];exact l0.trans (ae _ _)
 have hbt:Bxx wt w0.heap.size [.int .i64 (E.kind i),.int .i64 (E.pos en i),.int .i64 (E.num i),.slice xa (E.txt i).length xc]:=by rw[hwt.out];exact Bxx.new _ _ _
 have h0:=ha.later lt;have o0:=oa.trans (af.of_later lt);have b0:=hbx.later lt;have s0:=b0.lt;have st0:wa.heap.size<=w0.heap.size:=l0.size;have hKt:w0.heap.size≠K:=by omega
 generalize (E.txt i).length=xn at *
 clear hp hx;go_wp2_with fail
 rw[<-hwt.out]
 cases q2:pE E f i with
 | error k =>
  refine (rP h0 hf q2).mono ?_;rintro e w1 ⟨rfl,o9⟩;have HZ:=HNo.out _ w1 (by rw[<-HR.out];unfold yC;rw[q2];rfl) (o0.trans o9);go_wp2_with fail
  exact⟨rfl,HZ⟩
 | ok y =>
  obtain⟨c,j⟩:=y;have hadv:=(gX h.fit f).1 _ _ _ q2;refine (mF h0 hf q2).mono ?_;rintro e w1 ⟨a0,n0,c0,a1,n1,c1,F,rfl,o1,h1,ho,fp⟩;have s1:=o1.size;have hlF:=ai.lt _ ho;obtain⟨wb,hwb⟩:=hidx (w1.alloc (.cells #[.int .i64 c.kind,.int .i64 c.n,.int .i64 c.tk,.int .i64 c.tn,.slice a0 n0 c0,.slice a1 n1 c1] 148));have lb:Later w1 wb:=by rw[hwb.out];exact ae _ _
  have hbe:Bxx wb w1.heap.size [.int .i64 c.kind,.int .i64 c.n,.int .i64 c.tk,.int .i64 c.tn,.slice a0 n0 c0,.slice a1 n1 c1]:=by rw[hwb.out];exact Bxx.new _ _ _
  have hb:=h1.later lb;have ob:=(o0.trans o1).trans (af.of_later lb);have bb:=(b0.only o1 hK).later lb;have hob:=fE ho lb;have t1:=(((hbt.only o1 hKt).later lb).cell 1 _ rfl).1;have hKe:w1.heap.size≠K:=by have:=h1.ps.box.lt;omega
  have fpi:aJ TB (w.heap.size+1) i j F:=fp.mono (by omega) (Nat.le_refl _) (Nat.le_refl _);have hKF:K∉F:=fpi.iy (by omega) h.kt;obtain⟨⟨⟨z0,y0⟩,⟨z1,y1⟩,⟨z2,y2⟩,⟨z3,y3⟩,⟨z4,y4⟩,⟨z5,y5⟩⟩,zl⟩:=hbe.six;have hr2:(if c.kind=3\/c.kind=7\/c.kind=8 then PR.andThen (aG E [61] j) fun _ j=>PR.andThen (pE E f j) fun d j=>gI E 1 [c,d] j else .error i)=r:=by rw[<-HR.out];unfold yC;rw[q2];rfl
  clear HR q2 ho;go_upto_region 3 with fail
  rw[<-hwb.out];go_wp2_with fail
  refine (Dk c (.slice a0 n0 c0) (.slice a1 n1 c1) wb).mono ?_;rintro e w2 ⟨rfl,l2⟩;have h2:=hb.later l2;have o2:=ob.trans (af.of_later l2);have b2:=bb.later l2;have hbe2:=hbe.later l2;have ho2:=fE hob l2;have hsz2:=l2.size;have hbl:=hbe.lt;have t2:=((((hbt.only o1 hKt).later lb).later l2).cell 1 _ rfl).1;clear z0 y0 z1 y1 z2 y2 z3 y3 z4 y4 z5 y5 zl t1;by_cases q3:c.kind=3\/c.kind=7\/c.kind=8
  ·have hr3:(PR.andThen (aG E [61] j) fun _ j=>PR.andThen (pE E f j) fun d j=>gI E 1 [c,d] j)=r:=by rw[<-hr2,if_pos q3]
   clear hr2;rw[show leftB c.kind=true from by unfold leftB;rcases q3 with q|q|q <;> rw[q] <;> decide];go_wp2_with fail
   by_cases q4:E.txt j=[61]
   ·have hil:=ak.aX (E:=E) (i:=j) (by rw[q4];decide);refine (df h2.ps _ _ O1 (by decide) q4).mono ?_;rintro e w3 ⟨rfl,o3,p3⟩;have h3:=h2.go o3 p3;have o03:=o2.trans o3;have b3:=b2.only o3 hK;have hbe3:=hbe2.only o3 hKe;have ho3:=aI ho2 o3 hKF;have s3:=o3.size;have hr4:(PR.andThen (pE E f (j+1)) fun d j=>gI E 1 [c,d] j)=r:=by rw[<-hr3];unfold aG;rw[if_pos q4];rfl
    clear hr3;obtain⟨⟨⟨z0,y0⟩,⟨z1,y1⟩,⟨z2,y2⟩,⟨z3,y3⟩,⟨z4,y4⟩,⟨z5,y5⟩⟩,zl⟩:=hbe3.six;have HE:Hid (∀ w',af K w3 w'->Bxx w' w1.heap.size [.int .i64 c.kind,.int .i64 c.n,.int .i64 c.tk,.int .i64 c.tn,.slice a0 n0 c0,.slice a1 n1 c1]):=fun w' o=>hbe3.only o hKe;go_wp2_with fail
    cases q5:pE E f (j+1) with
    | error k =>
     have HC:Hid (∀ w',Later w3 w'->Calls Tryz.prog 105 #[.pointer (some ⟨K,0,none⟩)] w' fun e w5=>e=.panicked [{ v:=.iface 36 (.int .i64 (E.pos en k)),recovered:=false }]/\af K w3 w5):=fun w' l=>(rP (h3.later l) (by omega) q5).mono fun e w5 q=>⟨q.1,(af.of_later l).trans q.2⟩
     have HP:Hid (∀ w',af K w3 w'->PcP E TX TB en S K tv sv fv w r (gU TB w.heap.size i) (.panicked [{ v:=.iface 36 (.int .i64 (E.pos en k)),recovered:=false }]) w'):=fun w' o=>HNo.out _ w' (by rw[<-hr4,q5];rfl) (o03.trans o);clear HNo hr4 q5 HE;refine wp_region_any (by kernel_rfl) ?_;(try (change wpAny _ _ _ _ _ _ _ (World.drew _)));refine wpAny_take (i:=0) (v:=.pointer (some ⟨K,0,none⟩)) rfl (by kernel_rfl) (by kernel_rfl) (by kernel_rfl) (fun _ _ _ h=>h) (Or.inl ⟨by rfl,?_⟩) ?_
     ·intro w9;first|(go_simp;done)|(go_simp;with_reducible rfl)
     refine wpAny_take (i:=2) (v:=.pointer (some ⟨K,0,none⟩)) rfl (by kernel_rfl) (by kernel_rfl) (by kernel_rfl) (fun _ _ _ h=>h) (Or.inl ⟨by rfl,?_⟩) ?_
     ·intro w9;first|(go_simp;done)|(go_simp;with_reducible rfl)
     refine wpAny_ready (rs:=[1,3]) (by kernel_rfl) (List.cons_ne_nil _ _) ?_;refine (AllReady.cons rfl (fun KK hKK=>?_) (AllReady.cons rfl (fun KK hKK=>?_) AllReady.nil))
     ·go_simp;refine hKK _ _ ?_;clear hKK KK;refine wpAny_ready (rs:=[3]) (by kernel_rfl) (List.cons_ne_nil _ _) ?_;refine (AllReady.cons rfl (fun KK hKK=>?_) AllReady.nil);go_simp;go_wp2_with (go_at_call 105;refine (HC.out _ ?hl).mono ?_;(case hl=>(first|exact Later.drew _|exact (Later.drew _).trans (ae _ _)|exact (ae _ _).trans (Later.drew _)));rintro e w5 ⟨rfl,o5⟩)
      exact⟨rfl,HP.out w5 o5⟩
     ·go_simp;go_wp2_with (go_at_call 105;refine (HC.out _ ?hl).mono ?_;(case hl=>(first|exact Later.drew _|exact (Later.drew _).trans (ae _ _)|exact (ae _ _).trans (Later.drew _)));rintro e w5 ⟨rfl,o5⟩)
      exact⟨rfl,HP.out w5 o5⟩
    | ok y =>
     obtain⟨d,j2⟩:=y;have hadv2:=(gX h.fit f).1 _ _ _ q5
     have HC:Hid (∀ w',Later w3 w'->Calls Tryz.prog 105 #[.pointer (some ⟨K,0,none⟩)] w' fun e w5=>∃ e0 l0_ g0 e1 l1_ g1 G,e=.returned (.agg #[.int .i64 d.kind,.int .i64 d.n,.int .i64 d.tk,.int .i64 d.tn,.slice e0 l0_ g0,.slice e1 l1_ g1])/\af K w3 w5/\Pz E TX TB en S K tv sv fv w5 j2/\ai w5 d.dat [.int .i64 d.kind,.int .i64 d.n,.int .i64 d.tk,.int .i64 d.tn,.slice e0 l0_ g0,.slice e1 l1_ g1] G/\aJ TB w3.heap.size (j+1) j2 G):=fun w' l=>(mF (h3.later l) (by omega) q5).mono fun e w5 q=>by
      obtain⟨e0,l0_,g0,e1,l1_,g1,G,q1,q2,q3,q4,q5⟩:=q;exact⟨e0,l0_,g0,e1,l1_,g1,G,q1,(af.of_later l).trans q2,q3,q4,q5.mono l.size (Nat.le_refl _) (Nat.le_refl _)⟩
     have hr5:gI E 1 [c,d] j2=r:=by rw[<-hr4,q5];rfl
     clear hr4 q5;by_cases q5:E.txt j2=[59]
     ·have HB:Hid (∀ w',af K w3 w'->Bxx w' w.heap.size [.int .i64 0,.int .i64 0,.int .i64 0,.int .i64 0,.slice none 0 0,.slice none 0 0,.slice none 0 0,.slice none 0 0]):=fun w' o=>b3.only o hK
      have HF:Hid (∀ w5 w6 e0 l0_ g0 e1 l1_ g1 G,af K w3 w5->ai w5 d.dat [.int .i64 d.kind,.int .i64 d.n,.int .i64 d.tk,.int .i64 d.tn,.slice e0 l0_ g0,.slice e1 l1_ g1] G->aJ TB w3.heap.size (j+1) j2 G->af K (w5.alloc (.cells #[.int .i64 c.kind,.int .i64 c.n,.int .i64 c.tk,.int .i64 c.tn,.slice a0 n0 c0,.slice a1 n1 c1,.int .i64 d.kind,.int .i64 d.n,.int .i64 d.tk,.int .i64 d.tn,.slice e0 l0_ g0,.slice e1 l1_ g1] 148)) w6->Pz E TX TB en S K tv sv fv w6 (j2+1)->∃ W,Hid (W=((((((((w6).setCell ⟨w.heap.size,0,none⟩ (.int .i64 1)).setCell ⟨w.heap.size,1,none⟩ (.int .i64 0)).setCell ⟨w.heap.size,2,none⟩ (.int .i64 0)).setCell ⟨w.heap.size,3,none⟩ (.int .i64 0)).setCell ⟨w.heap.size,4,none⟩ (.slice none 0 0)).setCell ⟨w.heap.size,5,none⟩ (.slice (some ⟨w5.heap.size,0,none⟩) 2 2)).setCell ⟨w.heap.size,6,none⟩ (.slice none 0 0)).setCell ⟨w.heap.size,7,none⟩ (.slice none 0 0))/\Bxx W w.heap.size [.int .i64 1,.int .i64 0,.int .i64 0,.int .i64 0,.slice none 0 0,.slice (some ⟨w5.heap.size,0,none⟩) 2 2,.slice none 0 0,.slice none 0 0]/\Hid (PcP E TX TB en S K tv sv fv w r (gU TB w.heap.size i) (.returned (.agg #[.int .i64 1,.int .i64 0,.int .i64 0,.int .i64 0,.slice none 0 0,.slice (some ⟨w5.heap.size,0,none⟩) 2 2,.slice none 0 0,.slice none 0 0])) W)):=fun w5 w6 e0 l0_ g0 e1 l1_ g1 G o5 hG fG o6 h6=>by
       have s5:=o5.size;have hlF3:=ai.lt _ ho3;have hlG:=ai.lt _ hG
       have fa:aJ TB (w.heap.size+1) i j2 (w5.heap.size::(F++G)):=aJ.cons (aJ.app (h.tb.mono (Nat.le_succ _)) fpi hlF3 (by omega) fG (by omega) (by omega) (by omega)) (fun b q=>by
        rcases List.mem_append.1 q with q|q
        ·have:=hlF3 b q;omega
        ·exact hlG b q) (by omega)
       have oo:=(o03.trans o5).trans ((af.of_later (ae w5 (.cells #[.int .i64 c.kind,.int .i64 c.n,.int .i64 c.tk,.int .i64 c.tn,.slice a0 n0 c0,.slice a1 n1 c1,.int .i64 d.kind,.int .i64 d.n,.int .i64 d.tk,.int .i64 d.tn,.slice e0 l0_ g0,.slice e1 l1_ g1] 148))).trans o6);exact kz (r:=r) (j:=j2+1) (kd:=1) (n:=0) (tk:=0) (tn:=0) (nm:=[]) (ks:=[c,d]) (bs:=[]) (es:=[]) (F0:=[]) (F2:=[]) (F3:=[]) h (by rw[<-hr5];exact jP q5) oo h6.ps (HB.out w6 (o5.trans ((af.of_later (ae _ _)).trans o6))) (gu _) (aI (O8 (aI ho3 o5 hKF) hG) o6 (fa.iy (by omega) h.kt)) (iV _) (iV _) (by rw[List.nil_append,List.append_nil,List.append_nil];exact fa.mono (Nat.le_refl _) (Nat.le_refl _) (Nat.le_succ _))
      clear HNo hr5 ho3;go_region_with (first|(go_at_call 105;refine (HC.out _ ?hl).mono ?_;(case hl=>(first|exact Later.drew _|exact (Later.drew _).trans (ae _ _)|exact (ae _ _).trans (Later.drew _)));rintro e w5 ⟨e0,l0_,g0,e1,l1_,g1,G,rfl,o5,h5,hG,fG⟩;obtain⟨⟨⟨p0,q_0⟩,⟨p1,q_1⟩,⟨p2,q_2⟩,⟨p3,q_3⟩,⟨p4,q_4⟩,⟨p5,q_5⟩⟩,pl⟩:=(HE.out w5 o5).six)|(go_at_call 104;refine (tu (h5.later (ae _ _)) 1 (some ⟨w5.heap.size,0,none⟩) 2 2 q5).mono ?_;rintro e w6 ⟨rfl,o6,h6⟩;obtain⟨⟨⟨x0,f0⟩,⟨x1,f1⟩,⟨x2,f2⟩,⟨x3,f3⟩,⟨x4,f4⟩,⟨x5,f5⟩,⟨x6,f6⟩,⟨x7,f7⟩⟩,xl⟩:=(HB.out w6 (o5.trans ((af.of_later (ae _ _)).trans o6))).eight))
      all_goals
       obtain⟨W,hW,hXW,HZ⟩:=HF.out w5 w6 e0 l0_ g0 e1 l1_ g1 G o5 hG fG o6 h6;obtain⟨⟨⟨u0,_⟩,⟨u1,_⟩,⟨u2,_⟩,⟨u3,_⟩,⟨u4,_⟩,⟨u5,_⟩,⟨u6,_⟩,⟨u7,_⟩⟩,_⟩:=hXW.eight;clear HF HC HB HE hG fG hXW
       generalize PcP E TX TB en S K tv sv fv w r (gU TB w.heap.size i)=Q at *
       go_wp2_with fail
       rw[<-hW.out];exact bodyPost_ret (v:=.agg #[.int .i64 1,.int .i64 0,.int .i64 0,.int .i64 0,.slice none 0 0,.slice (some ⟨w5.heap.size,0,none⟩) 2 2,.slice none 0 0,.slice none 0 0]) (by simp[results,Tryz.results107,go_sem,u0,u1,u2,u3,u4,u5,u6,u7]) rfl HZ.out
     ·have HP:Hid (∀ w',af K w3 w'->PcP E TX TB en S K tv sv fv w r (gU TB w.heap.size i) (.panicked [{ v:=.iface 36 (.int .i64 (E.pos en j2)),recovered:=false }]) w'):=fun w' o=>HNo.out _ w' (by rw[<-hr5];exact oM q5) (o03.trans o);clear HNo hr5 ho3;refine wp_region_any (by kernel_rfl) ?_;(try (change wpAny _ _ _ _ _ _ _ (World.drew _)));refine wpAny_take (i:=0) (v:=.pointer (some ⟨K,0,none⟩)) rfl (by kernel_rfl) (by kernel_rfl) (by kernel_rfl) (fun _ _ _ h=>h) (Or.inl ⟨by rfl,?_⟩) ?_
      ·intro w9;first|(go_simp;done)|(go_simp;with_reducible rfl)
      refine wpAny_take (i:=2) (v:=.pointer (some ⟨K,0,none⟩)) rfl (by kernel_rfl) (by kernel_rfl) (by kernel_rfl) (fun _ _ _ h=>h) (Or.inl ⟨by rfl,?_⟩) ?_
      ·intro w9;first|(go_simp;done)|(go_simp;with_reducible rfl)
      refine wpAny_ready (rs:=[1,3]) (by kernel_rfl) (List.cons_ne_nil _ _) ?_;refine (AllReady.cons rfl (fun KK hKK=>?_) (AllReady.cons rfl (fun KK hKK=>?_) AllReady.nil))
      ·go_simp;refine hKK _ _ ?_;clear hKK KK;refine wpAny_ready (rs:=[3]) (by kernel_rfl) (List.cons_ne_nil _ _) ?_;refine (AllReady.cons rfl (fun KK hKK=>?_) AllReady.nil);go_simp;go_wp2_with (go_at_call 105;refine (HC.out _ ?hl).mono ?_;(case hl=>(first|exact Later.drew _|exact (Later.drew _).trans (ae _ _)|exact (ae _ _).trans (Later.drew _)));rintro e w5 ⟨e0,l0_,g0,e1,l1_,g1,G,rfl,o5,h5,hG,fG⟩;obtain⟨⟨⟨p0,q_0⟩,⟨p1,q_1⟩,⟨p2,q_2⟩,⟨p3,q_3⟩,⟨p4,q_4⟩,⟨p5,q_5⟩⟩,pl⟩:=(HE.out w5 o5).six)
       (try (refine hKK _ _ ?_));(try (clear hKK KK));refine wpAny_ready (rs:=[4]) (by kernel_rfl) (List.cons_ne_nil _ _) ?_;refine (AllReady.cons rfl (fun KK hKK=>?_) AllReady.nil);go_simp;refine hKK _ _ ?_;clear hKK KK;refine wpAny_ready (rs:=[5]) (by kernel_rfl) (List.cons_ne_nil _ _) ?_;refine (AllReady.cons rfl (fun KK hKK=>?_) AllReady.nil);go_simp;go_wp2_with (go_at_call 104;refine (yt (h5.later (ae _ _)) 1 (some ⟨w5.heap.size,0,none⟩) 2 2 q5).mono ?_;rintro e w6 ⟨rfl,o6⟩)
       exact⟨rfl,HP.out w6 (o5.trans ((af.of_later (ae _ _)).trans o6))⟩
      ·go_simp;go_wp2_with (go_at_call 105;refine (HC.out _ ?hl).mono ?_;(case hl=>(first|exact Later.drew _|exact (Later.drew _).trans (ae _ _)|exact (ae _ _).trans (Later.drew _)));rintro e w5 ⟨e0,l0_,g0,e1,l1_,g1,G,rfl,o5,h5,hG,fG⟩;obtain⟨⟨⟨p0,q_0⟩,⟨p1,q_1⟩,⟨p2,q_2⟩,⟨p3,q_3⟩,⟨p4,q_4⟩,⟨p5,q_5⟩⟩,pl⟩:=(HE.out w5 o5).six)
       (try (refine hKK _ _ ?_));(try (clear hKK KK));refine wpAny_ready (rs:=[1]) (by kernel_rfl) (List.cons_ne_nil _ _) ?_;refine (AllReady.cons rfl (fun KK hKK=>?_) AllReady.nil);go_simp;refine hKK _ _ ?_;clear hKK KK;refine wpAny_ready (rs:=[4]) (by kernel_rfl) (List.cons_ne_nil _ _) ?_;refine (AllReady.cons rfl (fun KK hKK=>?_) AllReady.nil);go_simp;refine hKK _ _ ?_;clear hKK KK;refine wpAny_ready (rs:=[5]) (by kernel_rfl) (List.cons_ne_nil _ _) ?_;refine (AllReady.cons rfl (fun KK hKK=>?_) AllReady.nil);go_simp;go_wp2_with (go_at_call 104;refine (yt (h5.later (ae _ _)) 1 (some ⟨w5.heap.size,0,none⟩) 2 2 q5).mono ?_;rintro e w6 ⟨rfl,o6⟩)
       exact⟨rfl,HP.out w6 (o5.trans ((af.of_later (ae _ _)).trans o6))⟩
   ·refine (dN h2.ps _ _ O1 (by decide) q4).mono ?_;rintro e w3 ⟨rfl,o3⟩;have HZ:=HNo.out _ w3 (by rw[<-hr3];unfold aG;rw[if_neg q4];rfl) (o2.trans o3);go_wp2_with fail
    exact⟨rfl,HZ⟩
  ·rw[show leftB c.kind=false from by unfold leftB;simp only[not_or]at q3;simp[q3]];have HZ:=HNo.out i w2 (by rw[<-hr2,if_neg q3]) o2;clear hr2 q3;go_wp2_with fail
   exact⟨rfl,HZ⟩
end Go.Proofs.YtgaddpkkjebekaaGreatDoor
