import Derived.Test.YtgaddpkkjebekaaGreatDoorZ41
import Derived.Deep.Cut
import Derived.Deep.RegionWith
import Derived.Deep.RegionHeld3
set_option maxHeartbeats 100000000
set_option maxRecDepth 100000
namespace Go.Proofs.YtgaddpkkjebekaaGreatDoor
open Go.RowKit Go.Maps
theorem En {E:ak}{TX:Nat->Value}{TB:Nat->List Nat}{en:Int}{S:List Sc}{K:Nat}{tv sv fv:Value}{w:World}{i:Nat}(h:Pz E TX TB en S K tv sv fv w i) {w4:World}{r:PR Ex}{x:Ex}{j:Nat}{u0 u1:Value}{F:List Nat}{c0 c1 c2 c3 c4 c5:Value}(hr:r=.ok (x,j)) (o:af K w w4) (p:Ps E TX TB en S K tv sv fv w4 j) (hb:Bxx w4 w.heap.size [c0,c1,c2,c3,c4,c5]) (ho:ai w4 x.dat [.int .i64 x.kind,.int .i64 x.n,.int .i64 x.tk,.int .i64 x.tn,u0,u1] F) (fp:aJ TB (w.heap.size+1) i j F) :
  ∃ W,Hid (W=(((((w4.setCell ⟨w.heap.size,0,none⟩ (.int .i64 x.kind)).setCell ⟨w.heap.size,1,none⟩ (.int .i64 x.n)).setCell ⟨w.heap.size,2,none⟩ (.int .i64 x.tk)).setCell ⟨w.heap.size,3,none⟩ (.int .i64 x.tn)).setCell ⟨w.heap.size,4,none⟩ u0).setCell ⟨w.heap.size,5,none⟩ u1)/\Bxx W w.heap.size [.int .i64 x.kind,.int .i64 x.n,.int .i64 x.tk,.int .i64 x.tn,u0,u1]/\Hid (PcP E TX TB en S K tv sv fv w r (jl TB w.heap.size i) (.returned (.agg #[.int .i64 x.kind,.int .i64 x.n,.int .i64 x.tk,.int .i64 x.tn,u0,u1])) W):=by
 obtain⟨W,hW⟩:=hidx ((((((w4.setCell ⟨w.heap.size,0,none⟩ (.int .i64 x.kind)).setCell ⟨w.heap.size,1,none⟩ (.int .i64 x.n)).setCell ⟨w.heap.size,2,none⟩ (.int .i64 x.tk)).setCell ⟨w.heap.size,3,none⟩ (.int .i64 x.tn)).setCell ⟨w.heap.size,4,none⟩ u0).setCell ⟨w.heap.size,5,none⟩ u1);have hK:K≠w.heap.size:=by have:=h.ps.box.lt;omega
 have oK:af K w W:=by
  rw[hW.out]
  repeat (first|with_reducible exact o|refine af.iG ?_ (Nat.le_refl _) _ _)
 have oR:af w.heap.size w4 W:=by
  rw[hW.out];exact ((((((af.refl _ w4).set 0 _).set 1 _).set 2 _).set 3 _).set 4 _).set 5 _
 have hbK:Bxx W K [tv,.int .i64 (j:Int),.int .i64 en,sv,fv]:=by
  rw[hW.out]
  repeat (first|with_reducible exact p.box|refine Bxx.other ?_ hK _)
 have hn:w.heap.size∉F:=fun q=>by
  rcases fp.whr _ q with a|⟨k,_,_,a⟩
  ·omega
  ·exact Nat.lt_irrefl _ (h.tb.lt k _ a)
 exact⟨W,hW,by rw[hW.out];exact (((((hb.set 0 _ (by simp)).set 1 _ (by simp)).set 2 _ (by simp)).set 3 _ (by simp)).set 4 _ (by simp)).set 5 _ (by simp),PcP.yes hr oK (h.ps.move oK hbK p.le) ⟨_,_,_,rfl,aI ho oR hn,fp.mono (Nat.le_succ _) (Nat.le_refl _) (Nat.le_refl _)⟩⟩
theorem zt {f:Nat}(H:ExC f) {E:ak}{TX:Nat->Value}{TB:Nat->List Nat}{en:Int}{S:List Sc}{K:Nat}{tv sv fv:Value}{w:World}{i:Nat}(h:Pz E TX TB en S K tv sv fv w i) (hf:4*(E.l.length - i)<=f) {x:Ex}{j:Nat}(q:iH E (f+1) i=.ok (x,j)):Calls Tryz.prog 157 #[.pointer (some ⟨K,0,none⟩)] w fun e w'=>∃ g F,e=.returned (.slice (some ⟨g,0,none⟩) 1 1)/\af K w w'/\Pz E TX TB en S K tv sv fv w' j/\ai w' (.list 6 (Ex.ah [x])) [.slice (some ⟨g,0,none⟩) 1 1] F/\aJ TB w.heap.size i j F :=
 (CZ H E TX TB en S K tv sv fv w i h hf).mono fun _ _ r=>by
  obtain⟨v,e1,p,g,F,e2,o,fp⟩:=r.well x j q;exact⟨g,F,by rw[e1,e2],r.only,h.go r.only p,by rw[Ex.ah,Ex.ah];exact o,fp⟩
theorem DZ {f:Nat}(H:ExC f) {E:ak}{TX:Nat->Value}{TB:Nat->List Nat}{en:Int}{S:List Sc}{K:Nat}{tv sv fv:Value}{w:World}{i:Nat}(h:Pz E TX TB en S K tv sv fv w i) (hf:4*(E.l.length - i)<=f) {k:Nat}(q:iH E (f+1) i=.error k):Calls Tryz.prog 157 #[.pointer (some ⟨K,0,none⟩)] w fun e w'=>e=.panicked [{ v:=.iface 36 (.int .i64 (E.pos en k)),recovered:=false }]/\af K w w' :=
 (CZ H E TX TB en S K tv sv fv w i h hf).mono fun _ _ r=>⟨r.bad k q,r.only⟩
theorem DV {E:ak}{TX:Nat->Value}{TB:Nat->List Nat}{en:Int}{S:List Sc}{K:Nat}{tv sv fv:Value}{w:World}{i i':Nat}(h:Pz E TX TB en S K tv sv fv w i) {P:Program}{fn:Nat}{args:Array Value}{r:PR Ex}(H:Calls P fn args w (PcP E TX TB en S K tv sv fv w r (jl TB w.heap.size i'))) {x:Ex}{j:Nat}(q:r=.ok (x,j)):Calls P fn args w fun e w'=>∃ a0 n0 c0 a1 n1 c1 F,e=.returned (.agg #[.int .i64 x.kind,.int .i64 x.n,.int .i64 x.tk,.int .i64 x.tn,.slice a0 n0 c0,.slice a1 n1 c1])/\af K w w'/\Pz E TX TB en S K tv sv fv w' j/\ai w' x.dat [.int .i64 x.kind,.int .i64 x.n,.int .i64 x.tk,.int .i64 x.tn,.slice a0 n0 c0,.slice a1 n1 c1] F/\aJ TB w.heap.size i' j F :=
 H.mono fun _ _ r=>by
  obtain⟨v,e1,p,u0,u1,F,e2,o,fp⟩:=r.well x j q;obtain⟨a0,n0,c0,a1,n1,c1,rfl,rfl⟩:=iU o;exact⟨a0,n0,c0,a1,n1,c1,F,by rw[e1,e2],r.only,h.go r.only p,o,fp⟩
theorem kT {α:Type}{E:ak}{TX:Nat->Value}{TB:Nat->List Nat}{en:Int}{S:List Sc}{K:Nat}{tv sv fv:Value}{w:World}{P:Program}{fn:Nat}{args:Array Value}{r:PR α}{V:α->Nat->Value->World->Prop}(H:Calls P fn args w (PcP E TX TB en S K tv sv fv w r V)) {k:Nat}(q:r=.error k):Calls P fn args w fun e w'=>e=.panicked [{ v:=.iface 36 (.int .i64 (E.pos en k)),recovered:=false }]/\af K w w' :=
 H.mono fun _ _ r=>⟨r.bad k q,r.only⟩
theorem aJ.behind {TB:Nat->List Nat}{B M i i' j:Nat}{F:List Nat}(h:aJ TB M i j F) (hm:B<M) (hi:i'<=i):aJ TB (B+1) i' j F:=h.mono hm hi (Nat.le_refl _)
theorem pO_2 {E:ak}{f i:Nat}(k2:E.kind i=2):pO E (f+2) i=.ok (.mk 0 (E.num i) 0 0 [] [],i+1):=by rw[pO,if_pos k2]
theorem pO_3 {E:ak}{f i:Nat}(k3:E.kind i=3):pO E (f+2) i=.ok (.mk 1 (E.num i) 0 0 [] [],i+1):=by rw[pO,if_neg (by rw[k3];decide),if_pos k3]
theorem pO_lp {E:ak}{f i:Nat}(k2:E.kind i≠2) (k3:E.kind i≠3) (q:E.txt i=[40]):pO E (f+2) i=Ii E (f+1) (i+1):=by rw[pO,if_neg k2,if_neg k3,if_pos q];rfl
theorem UM {E:ak}{f i:Nat}(k2:E.kind i≠2) (k3:E.kind i≠3) (q:E.txt i=[110,105,108]):pO E (f+2) i=PR.andThen (kV E (i+1)) fun n i=>.ok (.mk 2 n 0 0 [] [],i):=by rw[pO,if_neg k2,if_neg k3,if_neg (by rw[q];decide),if_pos q]
theorem UN {E:ak}{f i:Nat}(k2:E.kind i≠2) (k3:E.kind i≠3) (q:E.txt i=[110,101,119]):pO E (f+2) i=PR.andThen (kV E (i+1)) fun n i=>.ok (.mk 4 n 0 0 [] [],i):=by rw[pO,if_neg k2,if_neg k3,if_neg (by rw[q];decide),if_neg (by rw[q];decide),if_pos q]
theorem RG {E:ak}{f i:Nat}(k2:E.kind i≠2) (k3:E.kind i≠3) (q:E.txt i=[114,101,97,100]):pO E (f+2) i=.ok (.mk 11 0 0 0 [] [],i+1):=by rw[pO,if_neg k2,if_neg k3,if_neg (by rw[q];decide),if_neg (by rw[q];decide),if_neg (by rw[q];decide),if_pos q]
theorem RH {E:ak}{f i:Nat}(k2:E.kind i≠2) (k3:E.kind i≠3) (q:E.txt i=[109,97,107,101]):pO E (f+2) i=PR.andThen (lJ E (i+1)) fun t i=>PR.andThen (iH E (f+1) i) fun k i=>.ok (.mk 5 0 t.1 t.2 [] [k],i):=by rw[pO,if_neg k2,if_neg k3,if_neg (by rw[q];decide),if_neg (by rw[q];decide),if_neg (by rw[q];decide),if_neg (by rw[q];decide),if_pos q]
theorem UO {E:ak}{f i:Nat}(k2:E.kind i≠2) (k3:E.kind i≠3) (q:E.txt i=[108,101,110]):pO E (f+2) i=PR.andThen (iH E (f+1) (i+1)) fun k i=>.ok (.mk 9 0 0 0 [] [k],i):=by rw[pO,if_neg k2,if_neg k3,if_neg (by rw[q];decide),if_neg (by rw[q];decide),if_neg (by rw[q];decide),if_neg (by rw[q];decide),if_neg (by rw[q];decide),if_pos q]
theorem UQ {E:ak}{f i:Nat}(k2:E.kind i≠2) (k3:E.kind i≠3) (q:E.txt i=[105,110,116]):pO E (f+2) i=PR.andThen (iH E (f+1) (i+1)) fun k i=>.ok (.mk 12 0 0 0 [] [k],i):=by rw[pO,if_neg k2,if_neg k3,if_neg (by rw[q];decide),if_neg (by rw[q];decide),if_neg (by rw[q];decide),if_neg (by rw[q];decide),if_neg (by rw[q];decide),if_neg (by rw[q];decide),if_pos q]
theorem OB {E:ak}{f i:Nat}(k2:E.kind i≠2) (k3:E.kind i≠3) (q:E.txt i=[102,108,111,97,116]):pO E (f+2) i=PR.andThen (iH E (f+1) (i+1)) fun k i=>.ok (.mk 13 0 0 0 [] [k],i):=by rw[pO,if_neg k2,if_neg k3,if_neg (by rw[q];decide),if_neg (by rw[q];decide),if_neg (by rw[q];decide),if_neg (by rw[q];decide),if_neg (by rw[q];decide),if_neg (by rw[q];decide),if_neg (by rw[q];decide),if_pos q]
theorem RI {E:ak}{f i:Nat}(k2:E.kind i≠2) (k3:E.kind i≠3) (q0:E.txt i≠[40]) (q1:E.txt i≠[110,105,108]) (q2:E.txt i≠[110,101,119]) (q3:E.txt i≠[114,101,97,100]) (q4:E.txt i≠[109,97,107,101]) (q5:E.txt i≠[108,101,110]) (q6:E.txt i≠[105,110,116]) (q7:E.txt i≠[102,108,111,97,116]):pO E (f+2) i=yT E f i:=by rw[pO,if_neg k2,if_neg k3,if_neg q0,if_neg q1,if_neg q2,if_neg q3,if_neg q4,if_neg q5,if_neg q6,if_neg q7];rfl
theorem SL {f:Nat}(H:∀ g,g<=f+1->ExC g) (E:ak) (TX:Nat->Value) (TB:Nat->List Nat) (en:Int) (S:List Sc) (K:Nat) (tv sv fv:Value) (w:World) (i:Nat) (h:Pz E TX TB en S K tv sv fv w i) (hf:4*(E.l.length - i)<=f):Calls Tryz.prog 135 #[.pointer (some ⟨K,0,none⟩)] w (PcP E TX TB en S K tv sv fv w (pO E (f+2) i) (jl TB w.heap.size i)):=by
 have HNo:Hid (∀ k w',pO E (f+2) i=.error k->af K w w'->PcP E TX TB en S K tv sv fv w (pO E (f+2) i) (jl TB w.heap.size i) (.panicked [{ v:=.iface 36 (.int .i64 (E.pos en k)),recovered:=false }]) w'):=fun k w' e o=>PcP.no e o
 generalize hr:pO E (f+2) i=r at *
 have HR:Hid (pO E (f+2) i=r):=hr;clear hr;obtain⟨wa,hwa⟩:=hidx (w.alloc (.cells #[.int .i64 0,.int .i64 0,.int .i64 0,.int .i64 0,.slice none 0 0,.slice none 0 0] 148));have la:Later w wa:=by rw[hwa.out];exact ae _ _
 have ha:=h.later la;have hbx:Bxx wa w.heap.size [.int .i64 0,.int .i64 0,.int .i64 0,.int .i64 0,.slice none 0 0,.slice none 0 0]:=by rw[hwa.out];exact Bxx.new _ _ _
 have hs:=hbx.lt;have oa:af K w wa:=af.of_later la;have hK:w.heap.size≠K:=by have:=h.ps.box.lt;omega
 have hp:=gm E TX TB en S K tv sv fv wa i ha.ps;obtain⟨xa,xc,hx,_⟩:=(h.ps.text i).slice;unfold tkV at hp;rw[hx]at hp;go_enter Tryz.func135,Tryz.ntmps135;go_wp2_with fail
 rw[<-hwa.out];refine hp.mono ?_;rintro e w1 ⟨rfl,l1⟩;obtain⟨wb,hwb⟩:=hidx (w1.alloc (.cells #[.int .i64 (E.kind i),.int .i64 (E.pos en i),.int .i64 (E.num i),.slice xa (E.txt i).length xc] 45));have lb:Later wa wb:=by rw[hwb.out];exact l1.trans (ae _ _)
 have hb:=ha.later lb;have ob:af K w wb:=oa.trans (af.of_later lb);have hbb:=hbx.later lb;have hbt:Bxx wb w1.heap.size [.int .i64 (E.kind i),.int .i64 (E.pos en i),.int .i64 (E.num i),.slice xa (E.txt i).length xc]:=by rw[hwb.out];exact Bxx.new _ _ _
 have t0:=(hbt.cell 0 _ rfl).1;have t2:=(hbt.cell 2 _ rfl).1;have tl:=hbt.lt;obtain⟨p1,p2,p3⟩:=hb.ps.cells;have hfew:=(h.ps.tks w (af.refl _ _)).few;clear hp
 generalize (E.txt i).length=xn at *
 go_upto_region 2 with fail
 rw[<-hwb.out];by_cases k2:E.kind i=2
 ·have hi:=ak.zx (E:=E) (i:=i) (by rw[k2];decide);obtain⟨W,hW,hXW,HZ⟩:=lG h (HR.out.symm.trans (pO_2 k2)) (ob.set 1 (.int .i64 ((i:Int)+1))) (by have:=hb.ps.step hi;rw[Int.natCast_succ]at this;exact this) (hbb.other hK _) (gu _) (by rw[Ex.ah];exact jE _ _) (aJ.nil _ _ _ _);have hKt:w1.heap.size≠K:=by have:=ha.ps.box.lt;have:=l1.size;omega
  rw[k2]at t0;obtain⟨⟨⟨x0,f0⟩,⟨x1,f1⟩,⟨x2,f2⟩,⟨x3,f3⟩,⟨x4,f4⟩,⟨x5,f5⟩⟩,xl⟩:=hbb.six;obtain⟨⟨⟨e0,_⟩,⟨e1,_⟩,⟨e2,_⟩,⟨e3,_⟩,⟨e4,_⟩,⟨e5,_⟩⟩,_⟩:=hXW.six
  generalize PcP E TX TB en S K tv sv fv w r (jl TB w.heap.size i)=Q at *
  clear HNo H hXW HR hb hbt k2;go_wp2_with fail
  rw[<-hW.out];exact bodyPost_ret (v:=.agg #[.int .i64 0,.int .i64 (E.num i),.int .i64 0,.int .i64 0,.slice none 0 0,.slice none 0 0]) (by simp[results,Tryz.results135,go_sem,e0,e1,e2,e3,e4,e5]) rfl HZ.out
 by_cases k3:E.kind i=3
 ·have hi:=ak.zx (E:=E) (i:=i) (by rw[k3];decide);obtain⟨W,hW,hXW,HZ⟩:=lG h (HR.out.symm.trans (pO_3 k3)) (ob.set 1 (.int .i64 ((i:Int)+1))) (by have:=hb.ps.step hi;rw[Int.natCast_succ]at this;exact this) (hbb.other hK _) (gu _) (by rw[Ex.ah];exact jE _ _) (aJ.nil _ _ _ _);have hKt:w1.heap.size≠K:=by have:=ha.ps.box.lt;have:=l1.size;omega
  rw[k3]at t0;obtain⟨⟨⟨x0,f0⟩,⟨x1,f1⟩,⟨x2,f2⟩,⟨x3,f3⟩,⟨x4,f4⟩,⟨x5,f5⟩⟩,xl⟩:=hbb.six;obtain⟨⟨⟨e0,_⟩,⟨e1,_⟩,⟨e2,_⟩,⟨e3,_⟩,⟨e4,_⟩,⟨e5,_⟩⟩,_⟩:=hXW.six
  generalize PcP E TX TB en S K tv sv fv w r (jl TB w.heap.size i)=Q at *
  clear HNo H hXW HR hb hbt k3;go_wp2_with fail
  rw[<-hW.out];exact bodyPost_ret (v:=.agg #[.int .i64 1,.int .i64 (E.num i),.int .i64 0,.int .i64 0,.slice none 0 0,.slice none 0 0]) (by simp[results,Tryz.results135,go_sem,e0,e1,e2,e3,e4,e5]) rfl HZ.out
 have g2:(E.kind i==2)=false:=by simpa using k2
 have g3:(E.kind i==3)=false:=by simpa using k3
 clear hbt p1 p2 p3;go_wp2_with fail
 clear t0 t2 tl g2 g3;by_cases q0:E.txt i=[40]
 ·have hil:=ak.aX (E:=E) (i:=i) (by rw[q0];decide);refine (bG hb.ps _ _ oO (by decide) q0).mono ?_;rintro e wy ⟨rfl,oy,py⟩;have hy:=hb.go oy py;have ow:=ob.trans oy;have by_:=hbb.only oy hK;have sy:=oy.size;have sb:=hbb.lt;have hrr:=(pO_lp (f:=f) k2 k3 q0).symm.trans HR.out;clear HR;go_wp2_with fail
  cases qb:Ii E (f+1) (i+1) with
  | error k =>
   refine (kT (Dj (H (f+1) (Nat.le_refl _)) E TX TB en S K tv sv fv wy (i+1) hy (by omega)) qb).mono ?_;rintro e wz ⟨rfl,o9⟩;have HZ:=HNo.out _ wz (by rw[<-hrr,qb]) (ow.trans o9);go_wp2_with fail
   exact⟨rfl,HZ⟩
  | ok y =>
   obtain⟨x,j⟩:=y;refine (DV hy (Dj (H (f+1) (Nat.le_refl _)) E TX TB en S K tv sv fv wy (i+1) hy (by omega)) qb).mono ?_;rintro e wz ⟨a0,n0,c0,a1,n1,c1,F,rfl,oz,hz,hoz,fz⟩;obtain⟨W,hW,hXW,HZ⟩:=En (r:=r) h (by rw[<-hrr,qb]) (ow.trans oz) hz.ps (by_.only oz hK) hoz (fz.behind (by omega) (Nat.le_succ _));obtain⟨⟨⟨x0,f0⟩,⟨x1,f1⟩,⟨x2,f2⟩,⟨x3,f3⟩,⟨x4,f4⟩,⟨x5,f5⟩⟩,xl⟩:=(by_.only oz hK).six;obtain⟨⟨⟨e0,_⟩,⟨e1,_⟩,⟨e2,_⟩,⟨e3,_⟩,⟨e4,_⟩,⟨e5,_⟩⟩,_⟩:=hXW.six
   generalize PcP E TX TB en S K tv sv fv w r (jl TB w.heap.size i)=Q at *
   clear HNo H hXW hoz fz hrr qb;go_wp2_with fail
   rw[<-hW.out];exact bodyPost_ret (v:=.agg #[.int .i64 x.kind,.int .i64 x.n,.int .i64 x.tk,.int .i64 x.tn,.slice a0 n0 c0,.slice a1 n1 c1]) (by simp[results,Tryz.results135,go_sem,e0,e1,e2,e3,e4,e5]) rfl HZ.out
 refine (bT hb.ps _ _ oO (by decide) q0).mono ?_;rintro e v0 ⟨rfl,o0_,p0_⟩;have h0_:=hb.go o0_ p0_;have u0_:=ob.trans o0_;have b0_:=hbb.only o0_ hK;go_wp2_with fail
 by_cases q1:E.txt i=[110,105,108]
 ·have hil:=ak.aX (E:=E) (i:=i) (by rw[q1];decide);refine (bG h0_.ps _ _ JS (by decide) q1).mono ?_;rintro e wy ⟨rfl,oy,py⟩;have hy:=h0_.go oy py;have ow:=u0_.trans oy;have by_:=b0_.only oy hK;have sy:=oy.size;have sb:=b0_.lt;have hrr:=(UM (f:=f) k2 k3 q1).symm.trans HR.out;clear HR;go_wp2_with fail
  cases qb:kV E (i+1) with
  | error k =>
   refine (D5 hy.ps h.fit qb).mono ?_;rintro e wz ⟨rfl,o9⟩;have HZ:=HNo.out _ wz (by rw[<-hrr,qb];rfl) (ow.trans o9);go_wp2_with fail
   exact⟨rfl,HZ⟩
  | ok y =>
   obtain⟨n,j⟩:=y;refine (zu hy.ps h.fit qb).mono ?_;rintro e wz ⟨rfl,oz,pz⟩;obtain⟨W,hW,hXW,HZ⟩:=lG (r:=r) (kd:=2) (n:=n) (tk:=0) (tn:=0) (nm:=[]) (ks:=[]) h (by rw[<-hrr,qb];rfl) (ow.trans oz) pz (by_.only oz hK) (gu _) (by rw[Ex.ah];exact jE _ _) (aJ.nil _ _ _ _);obtain⟨⟨⟨x0,f0⟩,⟨x1,f1⟩,⟨x2,f2⟩,⟨x3,f3⟩,⟨x4,f4⟩,⟨x5,f5⟩⟩,xl⟩:=(by_.only oz hK).six;obtain⟨⟨⟨e0,_⟩,⟨e1,_⟩,⟨e2,_⟩,⟨e3,_⟩,⟨e4,_⟩,⟨e5,_⟩⟩,_⟩:=hXW.six
   generalize PcP E TX TB en S K tv sv fv w r (jl TB w.heap.size i)=Q at *
   clear HNo H hXW hrr qb;go_wp2_with fail
   rw[<-hW.out];exact bodyPost_ret (v:=.agg #[.int .i64 2,.int .i64 n,.int .i64 0,.int .i64 0,.slice none 0 0,.slice none 0 0]) (by simp[results,Tryz.results135,go_sem,e0,e1,e2,e3,e4,e5]) rfl HZ.out
 refine (bT h0_.ps _ _ JS (by decide) q1).mono ?_;rintro e v1 ⟨rfl,o1_,p1_⟩;have h1_:=h0_.go o1_ p1_;have u1_:=u0_.trans o1_;have b1_:=b0_.only o1_ hK;go_wp2_with fail
 by_cases q2:E.txt i=[110,101,119]
 ·have hil:=ak.aX (E:=E) (i:=i) (by rw[q2];decide);refine (bG h1_.ps _ _ JU (by decide) q2).mono ?_;rintro e wy ⟨rfl,oy,py⟩;have hy:=h1_.go oy py;have ow:=u1_.trans oy;have by_:=b1_.only oy hK;have sy:=oy.size;have sb:=b1_.lt;have hrr:=(UN (f:=f) k2 k3 q2).symm.trans HR.out;clear HR;go_wp2_with fail
  cases qb:kV E (i+1) with
  | error k =>
   refine (D5 hy.ps h.fit qb).mono ?_;rintro e wz ⟨rfl,o9⟩;have HZ:=HNo.out _ wz (by rw[<-hrr,qb];rfl) (ow.trans o9);go_wp2_with fail
   exact⟨rfl,HZ⟩
  | ok y =>
   obtain⟨n,j⟩:=y;refine (zu hy.ps h.fit qb).mono ?_;rintro e wz ⟨rfl,oz,pz⟩;obtain⟨W,hW,hXW,HZ⟩:=lG (r:=r) (kd:=4) (n:=n) (tk:=0) (tn:=0) (nm:=[]) (ks:=[]) h (by rw[<-hrr,qb];rfl) (ow.trans oz) pz (by_.only oz hK) (gu _) (by rw[Ex.ah];exact jE _ _) (aJ.nil _ _ _ _);obtain⟨⟨⟨x0,f0⟩,⟨x1,f1⟩,⟨x2,f2⟩,⟨x3,f3⟩,⟨x4,f4⟩,⟨x5,f5⟩⟩,xl⟩:=(by_.only oz hK).six;obtain⟨⟨⟨e0,_⟩,⟨e1,_⟩,⟨e2,_⟩,⟨e3,_⟩,⟨e4,_⟩,⟨e5,_⟩⟩,_⟩:=hXW.six
   generalize PcP E TX TB en S K tv sv fv w r (jl TB w.heap.size i)=Q at *
   clear HNo H hXW hrr qb;go_wp2_with fail
   rw[<-hW.out];exact bodyPost_ret (v:=.agg #[.int .i64 4,.int .i64 n,.int .i64 0,.int .i64 0,.slice none 0 0,.slice none 0 0]) (by simp[results,Tryz.results135,go_sem,e0,e1,e2,e3,e4,e5]) rfl HZ.out
 refine (bT h1_.ps _ _ JU (by decide) q2).mono ?_;rintro e v2 ⟨rfl,o2_,p2_⟩;have h2_:=h1_.go o2_ p2_;have u2_:=u1_.trans o2_;have b2_:=b1_.only o2_ hK;go_wp2_with fail
 by_cases q3:E.txt i=[114,101,97,100]
 ·have hil:=ak.aX (E:=E) (i:=i) (by rw[q3];decide);refine (bG h2_.ps _ _ FB (by decide) q3).mono ?_;rintro e wy ⟨rfl,oy,py⟩;have hy:=h2_.go oy py;have ow:=u2_.trans oy;have by_:=b2_.only oy hK;have sy:=oy.size;have sb:=b2_.lt;have hrr:=(RG (f:=f) k2 k3 q3).symm.trans HR.out;clear HR;obtain⟨W,hW,hXW,HZ⟩:=lG (r:=r) (kd:=11) (n:=0) (tk:=0) (tn:=0) (nm:=[]) (ks:=[]) h hrr.symm ow py by_ (gu _) (by rw[Ex.ah];exact jE _ _) (aJ.nil _ _ _ _);obtain⟨⟨⟨x0,f0⟩,⟨x1,f1⟩,⟨x2,f2⟩,⟨x3,f3⟩,⟨x4,f4⟩,⟨x5,f5⟩⟩,xl⟩:=by_.six;obtain⟨⟨⟨e0,_⟩,⟨e1,_⟩,⟨e2,_⟩,⟨e3,_⟩,⟨e4,_⟩,⟨e5,_⟩⟩,_⟩:=hXW.six
  generalize PcP E TX TB en S K tv sv fv w r (jl TB w.heap.size i)=Q at *
  clear HNo H hXW hrr;go_wp2_with fail
  rw[<-hW.out];exact bodyPost_ret (v:=.agg #[.int .i64 11,.int .i64 0,.int .i64 0,.int .i64 0,.slice none 0 0,.slice none 0 0]) (by simp[results,Tryz.results135,go_sem,e0,e1,e2,e3,e4,e5]) rfl HZ.out
 refine (bT h2_.ps _ _ FB (by decide) q3).mono ?_;rintro e v3 ⟨rfl,o3_,p3_⟩;have h3_:=h2_.go o3_ p3_;have u3_:=u2_.trans o3_;have b3_:=b2_.only o3_ hK;go_wp2_with fail
 by_cases q4:E.txt i=[109,97,107,101]
 ·have hil:=ak.aX (E:=E) (i:=i) (by rw[q4];decide);refine (bG h3_.ps _ _ FC (by decide) q4).mono ?_;rintro e wy ⟨rfl,oy,py⟩;have hy:=h3_.go oy py;have ow:=u3_.trans oy;have by_:=b3_.only oy hK;have sy:=oy.size;have sb:=b3_.lt;have hrr:=(RH (f:=f) k2 k3 q4).symm.trans HR.out;clear HR;go_wp2_with fail
  cases qb:lJ E (i+1) with
  | error k =>
   refine (OZ hy.ps h.fit qb).mono ?_;rintro e wz ⟨rfl,o9⟩;have HZ:=HNo.out _ wz (by rw[<-hrr,qb];rfl) (ow.trans o9);go_wp2_with fail
   exact⟨rfl,HZ⟩
  | ok y =>
   obtain⟨⟨t1,t2⟩,j⟩:=y;refine (JQ hy.ps h.fit qb).mono ?_;rintro e wz ⟨rfl,oz,pz⟩;obtain⟨wt,hwt⟩:=hidx (wz.alloc (.cells #[.int .i64 t1,.int .i64 t2] 52));have lt:Later wz wt:=by rw[hwt.out];exact ae _ _
   have hbt:Bxx wt wz.heap.size [.int .i64 t1,.int .i64 t2]:=by rw[hwt.out];exact Bxx.new _ _ _
   have ht:=(hy.go oz pz).later lt;have ot:=(ow.trans oz).trans (af.of_later lt);have hKz:wz.heap.size≠K:=by have:=pz.box.lt;omega
   have hadv:=Ac h.fit qb;have bt:=(by_.only oz hK).later lt;have st:=bt.lt;have hrr2:(PR.andThen (iH E (f+1) j) fun k i=>.ok (Ex.mk 5 0 t1 t2 [] [k],i))=r:=by rw[<-hrr,qb];rfl
   have HS:Hid (∀ w',af K wt w'->(w'.cell? ⟨wz.heap.size,0,none⟩=some (.int .i64 t1)/\w'.cell? ⟨wz.heap.size,1,none⟩=some (.int .i64 t2))):=fun w' o=>⟨((hbt.only o hKz).cell 0 _ rfl).1,((hbt.only o hKz).cell 1 _ rfl).1⟩
   clear hrr qb;go_upto_region 19 with fail
   rw[<-hwt.out]
   cases qk:iH E (f+1) j with
   | error k =>
    have HC:Hid (∀ w',Later wt w'->Calls Tryz.prog 157 #[.pointer (some ⟨K,0,none⟩)] w' fun e w2=>e=.panicked [{ v:=.iface 36 (.int .i64 (E.pos en k)),recovered:=false }]/\af K w' w2):=fun w' l=>DZ (H f (by omega)) (ht.later l) (by omega) qk;have HP:Hid (∀ w',af K wt w'->PcP E TX TB en S K tv sv fv w r (jl TB w.heap.size i) (.panicked [{ v:=.iface 36 (.int .i64 (E.pos en k)),recovered:=false }]) w'):=fun w' o=>HNo.out _ w' (by rw[<-hrr2,qk];rfl) (ot.trans o);clear HNo H hrr2 qk;obtain⟨z0,z1⟩:=HS.out wt (af.refl _ _);refine wp_region_any (by kernel_rfl) ?_;(try (change wpAny _ _ _ _ _ _ _ (World.drew _)));refine wpAny_ready (rs:=[0,1]) (by kernel_rfl) (List.cons_ne_nil _ _) ?_;refine (AllReady.cons rfl (fun KK hKK=>?_) (AllReady.cons rfl (fun KK hKK=>?_) AllReady.nil))
    ·go_simp;refine hKK _ _ ?_;clear hKK KK;refine wpAny_ready (rs:=[1]) (by kernel_rfl) (List.cons_ne_nil _ _) ?_;refine (AllReady.cons rfl (fun KK hKK=>?_) AllReady.nil);go_simp;refine hKK _ _ ?_;clear hKK KK;refine wpAny_ready (rs:=[2]) (by kernel_rfl) (List.cons_ne_nil _ _) ?_;refine (AllReady.cons rfl (fun KK hKK=>?_) AllReady.nil);go_simp;go_wp2_with (go_at_call 157;refine (HC.out _ (Later.drew _)).mono ?_;rintro e w3 ⟨rfl,o3⟩)
     exact⟨rfl,HP.out w3 ((af.of_later (Later.drew _)).trans o3)⟩
    ·go_simp;refine hKK _ _ ?_;clear hKK KK;refine wpAny_ready (rs:=[0,2]) (by kernel_rfl) (List.cons_ne_nil _ _) ?_;refine (AllReady.cons rfl (fun KK hKK=>?_) (AllReady.cons rfl (fun KK hKK=>?_) AllReady.nil))
     ·go_simp;refine hKK _ _ ?_;clear hKK KK;refine wpAny_ready (rs:=[2]) (by kernel_rfl) (List.cons_ne_nil _ _) ?_;refine (AllReady.cons rfl (fun KK hKK=>?_) AllReady.nil);go_simp;go_wp2_with (go_at_call 157;refine (HC.out _ (Later.drew _)).mono ?_;rintro e w3 ⟨rfl,o3⟩)
      exact⟨rfl,HP.out w3 ((af.of_later (Later.drew _)).trans o3)⟩
     ·go_simp;go_wp2_with (go_at_call 157;refine (HC.out _ (Later.drew _)).mono ?_;rintro e w3 ⟨rfl,o3⟩)
      exact⟨rfl,HP.out w3 ((af.of_later (Later.drew _)).trans o3)⟩
    skip
   | ok y =>
    obtain⟨x,j2⟩:=y;have HC:Hid (∀ w',Later wt w'->Calls Tryz.prog 157 #[.pointer (some ⟨K,0,none⟩)] w' fun e w2=>∃ g F,e=.returned (.slice (some ⟨g,0,none⟩) 1 1)/\af K w' w2/\Pz E TX TB en S K tv sv fv w2 j2/\ai w2 (.list 6 (Ex.ah [x])) [.slice (some ⟨g,0,none⟩) 1 1] F/\aJ TB w'.heap.size j j2 F):=fun w' l=>zt (H f (by omega)) (ht.later l) (by omega) qk;have HB:Hid (∀ w',af K wt w'->Bxx w' w.heap.size [.int .i64 0,.int .i64 0,.int .i64 0,.int .i64 0,.slice none 0 0,.slice none 0 0]):=fun w' o=>bt.only o hK;obtain⟨z0,z1⟩:=HS.out wt (af.refl _ _);go_region_with (go_at_call 157;refine (HC.out _ (Later.drew _)).mono ?_;rintro e w3 ⟨g,F,rfl,o3,h3,ho3,fq3⟩;obtain⟨y0,y1⟩:=HS.out w3 ((af.of_later (Later.drew _)).trans o3);obtain⟨⟨⟨x0,f0⟩,⟨x1,f1⟩,⟨x2,f2⟩,⟨x3,f3⟩,⟨x4,f4⟩,⟨x5,f5⟩⟩,xl⟩:=(HB.out w3 ((af.of_later (Later.drew _)).trans o3)).six)
    all_goals
     obtain⟨W,hW,hXW,HZ⟩:=lG (r:=r) (kd:=5) (n:=0) (tk:=t1) (tn:=t2) (nm:=[]) (ks:=[x]) (F0:=[]) h (by rw[<-hrr2,qk];rfl) ((ot.trans (af.of_later (Later.drew _))).trans o3) h3.ps (HB.out w3 ((af.of_later (Later.drew _)).trans o3)) (gu _) ho3 (fq3.behind (show w.heap.size<wt.drew.heap.size from st) (by omega));obtain⟨⟨⟨e0,_⟩,⟨e1,_⟩,⟨e2,_⟩,⟨e3,_⟩,⟨e4,_⟩,⟨e5,_⟩⟩,_⟩:=hXW.six
     generalize PcP E TX TB en S K tv sv fv w r (jl TB w.heap.size i)=Q at *
     clear HNo H hXW HC HB HS ho3 fq3 hrr2 qk;go_wp2_with fail
     rw[<-hW.out];exact bodyPost_ret (v:=.agg #[.int .i64 5,.int .i64 0,.int .i64 t1,.int .i64 t2,.slice none 0 0,.slice (some ⟨g,0,none⟩) 1 1]) (by simp[results,Tryz.results135,go_sem,e0,e1,e2,e3,e4,e5]) rfl HZ.out
 refine (bT h3_.ps _ _ FC (by decide) q4).mono ?_;rintro e v4 ⟨rfl,o4_,p4_⟩;have h4_:=h3_.go o4_ p4_;have u4_:=u3_.trans o4_;have b4_:=b3_.only o4_ hK;go_wp2_with fail
 by_cases q5:E.txt i=[108,101,110]
 ·have hil:=ak.aX (E:=E) (i:=i) (by rw[q5];decide);refine (bG h4_.ps _ _ JV (by decide) q5).mono ?_;rintro e wy ⟨rfl,oy,py⟩;have hy:=h4_.go oy py;have ow:=u4_.trans oy;have by_:=b4_.only oy hK;have sy:=oy.size;have sb:=b4_.lt;have hrr:=(UO (f:=f) k2 k3 q5).symm.trans HR.out;clear HR;go_wp2_with fail
  cases qb:iH E (f+1) (i+1) with
  | error k =>
   refine (DZ (H f (by omega)) hy (by omega) qb).mono ?_;rintro e wz ⟨rfl,o9⟩;have HZ:=HNo.out _ wz (by rw[<-hrr,qb];rfl) (ow.trans o9);go_wp2_with fail
   exact⟨rfl,HZ⟩
  | ok y =>
   obtain⟨x,j⟩:=y;refine (zt (H f (by omega)) hy (by omega) qb).mono ?_;rintro e wz ⟨g,F,rfl,oz,hz,hoz,fz⟩;obtain⟨W,hW,hXW,HZ⟩:=lG (r:=r) (kd:=9) (n:=0) (tk:=0) (tn:=0) (nm:=[]) (ks:=[x]) (F0:=[]) h (by rw[<-hrr,qb];rfl) (ow.trans oz) hz.ps (by_.only oz hK) (gu _) hoz (fz.behind (by omega) (Nat.le_succ _));obtain⟨⟨⟨x0,f0⟩,⟨x1,f1⟩,⟨x2,f2⟩,⟨x3,f3⟩,⟨x4,f4⟩,⟨x5,f5⟩⟩,xl⟩:=(by_.only oz hK).six;obtain⟨⟨⟨e0,_⟩,⟨e1,_⟩,⟨e2,_⟩,⟨e3,_⟩,⟨e4,_⟩,⟨e5,_⟩⟩,_⟩:=hXW.six
   generalize PcP E TX TB en S K tv sv fv w r (jl TB w.heap.size i)=Q at *
   clear HNo H hXW hoz fz hrr qb;go_wp2_with fail
   rw[<-hW.out];exact bodyPost_ret (v:=.agg #[.int .i64 9,.int .i64 0,.int .i64 0,.int .i64 0,.slice none 0 0,.slice (some ⟨g,0,none⟩) 1 1]) (by simp[results,Tryz.results135,go_sem,e0,e1,e2,e3,e4,e5]) rfl HZ.out
 refine (bT h4_.ps _ _ JV (by decide) q5).mono ?_;rintro e v5 ⟨rfl,o5_,p5_⟩;have h5_:=h4_.go o5_ p5_;have u5_:=u4_.trans o5_;have b5_:=b4_.only o5_ hK;go_wp2_with fail
 by_cases q6:E.txt i=[105,110,116]
 ·have hil:=ak.aX (E:=E) (i:=i) (by rw[q6];decide);refine (bG h5_.ps _ _ sO (by decide) q6).mono ?_;rintro e wy ⟨rfl,oy,py⟩;have hy:=h5_.go oy py;have ow:=u5_.trans oy;have by_:=b5_.only oy hK;have sy:=oy.size;have sb:=b5_.lt;have hrr:=(UQ (f:=f) k2 k3 q6).symm.trans HR.out;clear HR;go_wp2_with fail
  cases qb:iH E (f+1) (i+1) with
  | error k =>
   refine (DZ (H f (by omega)) hy (by omega) qb).mono ?_;rintro e wz ⟨rfl,o9⟩;have HZ:=HNo.out _ wz (by rw[<-hrr,qb];rfl) (ow.trans o9);go_wp2_with fail
   exact⟨rfl,HZ⟩
  | ok y =>
   obtain⟨x,j⟩:=y;refine (zt (H f (by omega)) hy (by omega) qb).mono ?_;rintro e wz ⟨g,F,rfl,oz,hz,hoz,fz⟩;obtain⟨W,hW,hXW,HZ⟩:=lG (r:=r) (kd:=12) (n:=0) (tk:=0) (tn:=0) (nm:=[]) (ks:=[x]) (F0:=[]) h (by rw[<-hrr,qb];rfl) (ow.trans oz) hz.ps (by_.only oz hK) (gu _) hoz (fz.behind (by omega) (Nat.le_succ _));obtain⟨⟨⟨x0,f0⟩,⟨x1,f1⟩,⟨x2,f2⟩,⟨x3,f3⟩,⟨x4,f4⟩,⟨x5,f5⟩⟩,xl⟩:=(by_.only oz hK).six;obtain⟨⟨⟨e0,_⟩,⟨e1,_⟩,⟨e2,_⟩,⟨e3,_⟩,⟨e4,_⟩,⟨e5,_⟩⟩,_⟩:=hXW.six
   generalize PcP E TX TB en S K tv sv fv w r (jl TB w.heap.size i)=Q at *
   clear HNo H hXW hoz fz hrr qb;go_wp2_with fail
   rw[<-hW.out];exact bodyPost_ret (v:=.agg #[.int .i64 12,.int .i64 0,.int .i64 0,.int .i64 0,.slice none 0 0,.slice (some ⟨g,0,none⟩) 1 1]) (by simp[results,Tryz.results135,go_sem,e0,e1,e2,e3,e4,e5]) rfl HZ.out
 refine (bT h5_.ps _ _ sO (by decide) q6).mono ?_;rintro e v6 ⟨rfl,o6_,p6_⟩;have h6_:=h5_.go o6_ p6_;have u6_:=u5_.trans o6_;have b6_:=b5_.only o6_ hK;go_wp2_with fail
 by_cases q7:E.txt i=[102,108,111,97,116]
 ·have hil:=ak.aX (E:=E) (i:=i) (by rw[q7];decide);refine (bG h6_.ps _ _ kL (by decide) q7).mono ?_;rintro e wy ⟨rfl,oy,py⟩;have hy:=h6_.go oy py;have ow:=u6_.trans oy;have by_:=b6_.only oy hK;have sy:=oy.size;have sb:=b6_.lt;have hrr:=(OB (f:=f) k2 k3 q7).symm.trans HR.out;clear HR;go_wp2_with fail
  cases qb:iH E (f+1) (i+1) with
  | error k =>
   refine (DZ (H f (by omega)) hy (by omega) qb).mono ?_;rintro e wz ⟨rfl,o9⟩;have HZ:=HNo.out _ wz (by rw[<-hrr,qb];rfl) (ow.trans o9);go_wp2_with fail
   exact⟨rfl,HZ⟩
  | ok y =>
   obtain⟨x,j⟩:=y;refine (zt (H f (by omega)) hy (by omega) qb).mono ?_;rintro e wz ⟨g,F,rfl,oz,hz,hoz,fz⟩;obtain⟨W,hW,hXW,HZ⟩:=lG (r:=r) (kd:=13) (n:=0) (tk:=0) (tn:=0) (nm:=[]) (ks:=[x]) (F0:=[]) h (by rw[<-hrr,qb];rfl) (ow.trans oz) hz.ps (by_.only oz hK) (gu _) hoz (fz.behind (by omega) (Nat.le_succ _));obtain⟨⟨⟨x0,f0⟩,⟨x1,f1⟩,⟨x2,f2⟩,⟨x3,f3⟩,⟨x4,f4⟩,⟨x5,f5⟩⟩,xl⟩:=(by_.only oz hK).six;obtain⟨⟨⟨e0,_⟩,⟨e1,_⟩,⟨e2,_⟩,⟨e3,_⟩,⟨e4,_⟩,⟨e5,_⟩⟩,_⟩:=hXW.six
   generalize PcP E TX TB en S K tv sv fv w r (jl TB w.heap.size i)=Q at *
   clear HNo H hXW hoz fz hrr qb;go_wp2_with fail
   rw[<-hW.out];exact bodyPost_ret (v:=.agg #[.int .i64 13,.int .i64 0,.int .i64 0,.int .i64 0,.slice none 0 0,.slice (some ⟨g,0,none⟩) 1 1]) (by simp[results,Tryz.results135,go_sem,e0,e1,e2,e3,e4,e5]) rfl HZ.out
 refine (bT h6_.ps _ _ kL (by decide) q7).mono ?_;rintro e v7 ⟨rfl,o7_,p7_⟩;have h7_:=h6_.go o7_ p7_;have u7_:=u6_.trans o7_;have b7_:=b6_.only o7_ hK;go_wp2_with fail
 have hrr:=(RI (f:=f) k2 k3 q0 q1 q2 q3 q4 q5 q6 q7).symm.trans HR.out;clear HR;have sb:=b7_.lt
 cases qb:yT E f i with
 | error k =>
  refine (kT (CY (fun g q=>H g (by omega)) E TX TB en S K tv sv fv v7 i h7_ (by omega)) qb).mono ?_;rintro e wz ⟨rfl,o9⟩;have HZ:=HNo.out _ wz (by rw[<-hrr,qb]) (u7_.trans o9);go_wp2_with fail
  exact⟨rfl,HZ⟩
 | ok y =>
  obtain⟨x,j⟩:=y;refine (DV h7_ (CY (fun g q=>H g (by omega)) E TX TB en S K tv sv fv v7 i h7_ (by omega)) qb).mono ?_;rintro e wz ⟨a0,n0,c0,a1,n1,c1,F,rfl,oz,hz,hoz,fz⟩;obtain⟨W,hW,hXW,HZ⟩:=En (r:=r) h (by rw[<-hrr,qb]) (u7_.trans oz) hz.ps (b7_.only oz hK) hoz (fz.behind (by omega) (Nat.le_refl _));obtain⟨⟨⟨x0,f0⟩,⟨x1,f1⟩,⟨x2,f2⟩,⟨x3,f3⟩,⟨x4,f4⟩,⟨x5,f5⟩⟩,xl⟩:=(b7_.only oz hK).six;obtain⟨⟨⟨e0,_⟩,⟨e1,_⟩,⟨e2,_⟩,⟨e3,_⟩,⟨e4,_⟩,⟨e5,_⟩⟩,_⟩:=hXW.six
  generalize PcP E TX TB en S K tv sv fv w r (jl TB w.heap.size i)=Q at *
  clear HNo H hXW hoz fz hrr qb;go_wp2_with fail
  rw[<-hW.out];exact bodyPost_ret (v:=.agg #[.int .i64 x.kind,.int .i64 x.n,.int .i64 x.tk,.int .i64 x.tn,.slice a0 n0 c0,.slice a1 n1 c1]) (by simp[results,Tryz.results135,go_sem,e0,e1,e2,e3,e4,e5]) rfl HZ.out
end Go.Proofs.YtgaddpkkjebekaaGreatDoor
