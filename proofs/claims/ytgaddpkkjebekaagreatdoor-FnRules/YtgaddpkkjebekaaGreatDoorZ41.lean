import Derived.Test.YtgaddpkkjebekaaGreatDoorZ40
set_option maxHeartbeats 100000000
set_option maxRecDepth 100000
namespace Go.Proofs.YtgaddpkkjebekaaGreatDoor
open Go.RowKit Go.Maps
theorem fE {w w':World}{d:Dat}{cs:List Value}{F:List Nat}(h:ai w d cs F) (l:Later w w'):ai w' d cs F:=ai.agree l.size d h fun b hb=>l.block b (ai.lt d h b hb)
theorem CZ {f:Nat}(H:ExC f) (E:ak) (TX:Nat->Value) (TB:Nat->List Nat) (en:Int) (S:List Sc) (K:Nat) (tv sv fv:Value) (w:World) (i:Nat) (h:Pz E TX TB en S K tv sv fv w i) (hf:4*(E.l.length - i)<=f):Calls Tryz.prog 157 #[.pointer (some ⟨K,0,none⟩)] w (PcP E TX TB en S K tv sv fv w (iH E (f+1) i) (JL TB w.heap.size i)):=by
 have HNo:Hid (∀ k w',iH E (f+1) i=.error k->af K w w'->PcP E TX TB en S K tv sv fv w (iH E (f+1) i) (JL TB w.heap.size i) (.panicked [{ v:=.iface 36 (.int .i64 (E.pos en k)),recovered:=false }]) w'):=fun k w' e o=>PcP.no e o;have HY:Hid (∀ x j w' g F,iH E (f+1) i=.ok (x,j)->af K w w'->Ps E TX TB en S K tv sv fv w' j->ai w' (.list 6 [x.dat]) [.slice (some ⟨g,0,none⟩) 1 1] F->aJ TB w.heap.size i j F->PcP E TX TB en S K tv sv fv w (iH E (f+1) i) (JL TB w.heap.size i) (.returned (.slice (some ⟨g,0,none⟩) 1 1)) w'):=fun x j w' g F e o p q r=>PcP.yes e o p ⟨g,F,rfl,q,r⟩
 generalize PcP E TX TB en S K tv sv fv w (iH E (f+1) i) (JL TB w.heap.size i)=Q at *
 go_enter Tryz.func157,Tryz.ntmps157;go_wp2_with fail
 by_cases q1:E.txt i=[40]
 ·have hi:=ak.aX (E:=E) (i:=i) (by rw[q1];decide);refine (df h.ps _ _ oO (by decide) q1).mono ?_;rintro e w1 ⟨rfl,o1,p1⟩;have h1:=h.go o1 p1;have hin:=RF (f:=f) q1;have hf1:4*(E.l.length - (i+1))+3<=f:=by omega
  go_wp2_with fail
  cases q2:pE E f (i+1) with
  | error k =>
   refine (Du H h1 hf1 q2).mono ?_;rintro e w2 ⟨rfl,o2⟩;have HZ:=HNo.out _ w2 (by rw[hin,q2];rfl) (o1.trans o2);go_wp2_with fail
   exact⟨rfl,HZ⟩
  | ok y =>
   obtain⟨x,j⟩:=y;refine (yh H h1 hf1 q2).mono ?_;rintro e w2 ⟨u0,u1,F,rfl,o2,h2,ho,fp⟩;obtain⟨a0,n0,c0,a1,n1,c1,rfl,rfl⟩:=iU ho;have hadv:=(gX h.fit f).1 _ _ _ q2;have hin2:iH E (f+1) i=PR.andThen (aG E [41] j) fun _ i=>.ok (x,i):=by rw[hin,q2];rfl
   obtain⟨wb,hwb⟩:=hidx (w2.alloc (.cells #[.int .i64 x.kind,.int .i64 x.n,.int .i64 x.tk,.int .i64 x.tn,.slice a0 n0 c0,.slice a1 n1 c1] 148));have lb:Later w2 wb:=by rw[hwb.out];exact ae _ _
   have hby:Bxx wb w2.heap.size [.int .i64 x.kind,.int .i64 x.n,.int .i64 x.tk,.int .i64 x.tn,.slice a0 n0 c0,.slice a1 n1 c1]:=by rw[hwb.out];exact Bxx.new _ _ _
   have hb:=h2.ps.later lb;have hKF:K∉F:=fp.iy h1.ps.box.lt h.kt;have ob:af K w wb:=(o1.trans o2).trans (af.of_later lb);have hKb:w2.heap.size≠K:=by have:=h2.ps.box.lt;omega
   go_wp2_with fail
   rw[<-hwb.out];by_cases q3:E.txt j=[41]
   ·refine (df hb _ _ ku (by decide) q3).mono ?_;rintro e w3 ⟨rfl,o3,p3⟩;obtain⟨wc,hwc⟩:=hidx (w3.alloc (.cells #[.int .i64 x.kind,.int .i64 x.n,.int .i64 x.tk,.int .i64 x.tn,.slice a0 n0 c0,.slice a1 n1 c1] 148));have lc:Later w3 wc:=by rw[hwc.out];exact ae _ _
    have hbc:Bxx wc w3.heap.size [.int .i64 x.kind,.int .i64 x.n,.int .i64 x.tk,.int .i64 x.tn,.slice a0 n0 c0,.slice a1 n1 c1]:=by rw[hwc.out];exact Bxx.new _ _ _
    have ho3:=aI (fE ho lb) o3 hKF;have hs:=(ob.trans o3).size;have HZ:=HY.out x (j+1) wc w3.heap.size (w3.heap.size::F) (by rw[hin2];unfold aG;rw[if_pos q3];rfl) ((ob.trans o3).trans (af.of_later lc)) (p3.later lc) (xW hbc rfl (fE ho3 lc)) (aJ.cons (fp.mono o1.size (Nat.le_succ i) (Nat.le_succ j)) (ai.lt _ ho3) hs);have hb3:=hby.only o3 hKb;have z0:=(hb3.cell 0 _ rfl).1;have z1:=(hb3.cell 1 _ rfl).1;have z2:=(hb3.cell 2 _ rfl).1;have z3:=(hb3.cell 3 _ rfl).1;have z4:=(hb3.cell 4 _ rfl).1;have z5:=(hb3.cell 5 _ rfl).1;have zl:=hb3.lt;clear HY HNo H ho ho3 hbc hby fp;go_wp2_with fail
    rw[<-hwc.out];exact HZ
   ·refine (dN hb _ _ ku (by decide) q3).mono ?_;rintro e w3 ⟨rfl,o3⟩;have HZ:=HNo.out _ w3 (by rw[hin2];unfold aG;rw[if_neg q3];rfl) (ob.trans o3);go_wp2_with fail
    exact⟨rfl,HZ⟩
 ·refine (dN h.ps _ _ oO (by decide) q1).mono ?_;rintro e w1 ⟨rfl,o1⟩;have HZ:=HNo.out _ w1 (OA q1) o1;go_wp2_with fail
  exact⟨rfl,HZ⟩
def Ii (E:ak) (f i:Nat):PR Ex:=PR.andThen (pE E f i) fun a i=>PR.andThen (pOp E i) fun n i=>PR.andThen (pE E f i) fun b i=>PR.andThen (aG E [41] i) fun _ i=>.ok (.mk 10 n 0 0 [] [a,b],i)
theorem UV {E:ak}{TX:Nat->Value}{TB:Nat->List Nat}{en:Int}{S:List Sc}{K:Nat}{tv sv fv:Value}{w:World}{i:Nat}(h:Pz E TX TB en S K tv sv fv w i) {n:Int}{j:Nat}(q:pOp E i=.ok (n,j)):Calls Tryz.prog 170 #[.pointer (some ⟨K,0,none⟩)] w fun e w'=>e=.returned (.int .i64 n)/\af K w w'/\Pz E TX TB en S K tv sv fv w' j :=
 (FX E TX TB en S K tv sv fv w i h.ps h.op).mono fun _ _ r=>by
  obtain⟨v,e1,p,e2⟩:=r.well n j q;exact⟨by rw[e1,e2],r.only,h.go r.only p⟩
theorem op_no {E:ak}{TX:Nat->Value}{TB:Nat->List Nat}{en:Int}{S:List Sc}{K:Nat}{tv sv fv:Value}{w:World}{i:Nat}(h:Pz E TX TB en S K tv sv fv w i) {k:Nat}(q:pOp E i=.error k):Calls Tryz.prog 170 #[.pointer (some ⟨K,0,none⟩)] w fun e w'=>e=.panicked [{ v:=.iface 36 (.int .i64 (E.pos en k)),recovered:=false }]/\af K w w' :=
 (FX E TX TB en S K tv sv fv w i h.ps h.op).mono fun _ _ r=>⟨r.bad k q,r.only⟩
theorem Pz.later {E:ak}{TX:Nat->Value}{TB:Nat->List Nat}{en:Int}{S:List Sc}{K:Nat}{tv sv fv:Value}{w w':World}{i:Nat}(h:Pz E TX TB en S K tv sv fv w i) (l:Later w w'):Pz E TX TB en S K tv sv fv w' i:=h.go (af.of_later l) (h.ps.later l)
theorem Dj {f:Nat}(H:ExC f) (E:ak) (TX:Nat->Value) (TB:Nat->List Nat) (en:Int) (S:List Sc) (K:Nat) (tv sv fv:Value) (w:World) (i:Nat) (h:Pz E TX TB en S K tv sv fv w i) (hf:4*(E.l.length - i)+3<=f):Calls Tryz.prog 156 #[.pointer (some ⟨K,0,none⟩)] w (PcP E TX TB en S K tv sv fv w (Ii E f i) (jl TB w.heap.size i)):=by
 have HNo:Hid (∀ k w',Ii E f i=.error k->af K w w'->PcP E TX TB en S K tv sv fv w (Ii E f i) (jl TB w.heap.size i) (.panicked [{ v:=.iface 36 (.int .i64 (E.pos en k)),recovered:=false }]) w'):=fun k w' e o=>PcP.no e o
 generalize hr:Ii E f i=r at *
 unfold Ii at hr;obtain⟨wa,hwa⟩:=hidx (w.alloc (.cells #[.int .i64 0,.int .i64 0,.int .i64 0,.int .i64 0,.slice none 0 0,.slice none 0 0] 148));have la:Later w wa:=by rw[hwa.out];exact ae _ _
 have ha:=h.later la;have hbx:Bxx wa w.heap.size [.int .i64 0,.int .i64 0,.int .i64 0,.int .i64 0,.slice none 0 0,.slice none 0 0]:=by rw[hwa.out];exact Bxx.new _ _ _
 have oa:af K w wa:=af.of_later la;have hKl:=h.ps.box.lt;have hK:w.heap.size≠K:=by omega
 go_enter Tryz.func156,Tryz.ntmps156;go_wp2_with fail
 rw[<-hwa.out]
 cases q1:pE E f i with
 | error k =>
  refine (Du H ha hf q1).mono ?_;rintro e w1 ⟨rfl,o1⟩;have HZ:=HNo.out _ w1 (by rw[<-hr,q1];rfl) (oa.trans o1);go_wp2_with fail
  exact⟨rfl,HZ⟩
 | ok y =>
  obtain⟨x,j⟩:=y;refine (yh H ha hf q1).mono ?_;rintro e w1 ⟨u0,u1,F,rfl,o1,h1,ho,fp⟩;obtain⟨a0,n0,c0,a1,n1,c1,rfl,rfl⟩:=iU ho;have hadv:=(gX h.fit f).1 _ _ _ q1;rw[q1]at hr;obtain⟨wb,hwb⟩:=hidx (w1.alloc (.cells #[.int .i64 x.kind,.int .i64 x.n,.int .i64 x.tk,.int .i64 x.tn,.slice a0 n0 c0,.slice a1 n1 c1] 148));have lb:Later w1 wb:=by rw[hwb.out];exact ae _ _
  have hby:Bxx wb w1.heap.size [.int .i64 x.kind,.int .i64 x.n,.int .i64 x.tk,.int .i64 x.tn,.slice a0 n0 c0,.slice a1 n1 c1]:=by rw[hwb.out];exact Bxx.new _ _ _
  have hb:=h1.later lb;have ob:af K w wb:=(oa.trans o1).trans (af.of_later lb);have hK1:w1.heap.size≠K:=by have:=h1.ps.box.lt;omega
  have hbxb:=(hbx.only o1 hK).later lb;go_wp2_with fail
  rw[<-hwb.out]
  cases q2:pOp E j with
  | error k =>
   refine (op_no hb q2).mono ?_;rintro e w2 ⟨rfl,o2⟩;have HZ:=HNo.out _ w2 (by rw[<-hr];show PR.andThen (pOp E j) _=_;rw[q2];rfl) (ob.trans o2);go_wp2_with fail
   exact⟨rfl,HZ⟩
  | ok y =>
   obtain⟨n,j2⟩:=y;have hop:=JI q2;refine (UV hb q2).mono ?_;rintro e w2 ⟨rfl,o2,h2⟩;have hr2:PR.andThen (pE E f j2) (fun b i=>PR.andThen (aG E [41] i) fun _ i=>.ok (Ex.mk 10 n 0 0 [] [x,b],i))=r:=by rw[<-hr];show _=PR.andThen (pOp E j) _;rw[q2];rfl
   clear hr;go_wp2_with fail
   cases q3:pE E f j2 with
   | error k =>
    refine (Du H h2 (by omega) q3).mono ?_;rintro e w3 ⟨rfl,o3⟩;have HZ:=HNo.out _ w3 (by rw[<-hr2,q3];rfl) ((ob.trans o2).trans o3);go_wp2_with fail
    exact⟨rfl,HZ⟩
   | ok y =>
    obtain⟨x2,j3⟩:=y;refine (yh H h2 (by omega) q3).mono ?_;rintro e w3 ⟨u2,u3,F2,rfl,o3,h3,ho3,fp3⟩;obtain⟨a2,n2,c2,a3,n3,c3,rfl,rfl⟩:=iU ho3;obtain⟨wd,hwd⟩:=hidx (w3.alloc (.cells #[.int .i64 x2.kind,.int .i64 x2.n,.int .i64 x2.tk,.int .i64 x2.tn,.slice a2 n2 c2,.slice a3 n3 c3] 148));have ld:Later w3 wd:=by rw[hwd.out];exact ae _ _
    have hbz:Bxx wd w3.heap.size [.int .i64 x2.kind,.int .i64 x2.n,.int .i64 x2.tk,.int .i64 x2.tn,.slice a2 n2 c2,.slice a3 n3 c3]:=by rw[hwd.out];exact Bxx.new _ _ _
    have hd:=h3.later ld;have od:af K w wd:=((ob.trans o2).trans o3).trans (af.of_later ld);have hK3:w3.heap.size≠K:=by have:=h3.ps.box.lt;omega
    have hby3:=((hby.only o2 hK1).only o3 hK1).later ld;have hbx3:=((hbxb.only o2 hK).only o3 hK).later ld;go_wp2_with fail
    rw[<-hwd.out];by_cases q4:E.txt j3=[41]
    ·refine (df hd.ps _ _ ku (by decide) q4).mono ?_;rintro e w4 ⟨rfl,o4,p4⟩;have hY4:=hby3.only o4 hK1;have hZ4:=hbz.only o4 hK3;have hX4:=hbx3.only o4 hK;have l0:=(hY4.cell 0 _ rfl).1;have l1:=(hY4.cell 1 _ rfl).1;have l2:=(hY4.cell 2 _ rfl).1;have l3:=(hY4.cell 3 _ rfl).1;have l4:=(hY4.cell 4 _ rfl).1;have l5:=(hY4.cell 5 _ rfl).1;have ll:=hY4.lt;have r0:=(hZ4.cell 0 _ rfl).1;have r1:=(hZ4.cell 1 _ rfl).1;have r2:=(hZ4.cell 2 _ rfl).1;have r3:=(hZ4.cell 3 _ rfl).1;have r4:=(hZ4.cell 4 _ rfl).1;have r5:=(hZ4.cell 5 _ rfl).1;have rl:=hZ4.lt;have rx0:=(hX4.cell 0 _ rfl).1;have rx1:=(hX4.cell 1 _ rfl).1;have rx2:=(hX4.cell 2 _ rfl).1;have rx3:=(hX4.cell 3 _ rfl).1;have rx4:=(hX4.cell 4 _ rfl).1;have rx5:=(hX4.cell 5 _ rfl).1;have rf0:=(hX4.cell 0 _ rfl).2;have rf1:=(hX4.cell 1 _ rfl).2;have rf2:=(hX4.cell 2 _ rfl).2;have rf3:=(hX4.cell 3 _ rfl).2;have rf4:=(hX4.cell 4 _ rfl).2;have rf5:=(hX4.cell 5 _ rfl).2;have rxl:=hX4.lt;have s1:=(oa.trans o1).size;have s2:=o2.size;have s3:=o3.size;have s4:=o4.size;have sb:=lb.size;have sd:=ld.size;have hKF:K∉F:=fp.iy ha.ps.box.lt h.kt;have hKF2:K∉F2:=fp3.iy h2.ps.box.lt h.kt;have hwF:w.heap.size∉F:=fp.iy hbx.lt (fun k q=>Nat.lt_irrefl _ (h.tb.lt k _ q));have hwF2:w.heap.size∉F2:=fp3.iy (by have:=hbx.lt;have:=o1.size;omega) (fun k q=>Nat.lt_irrefl _ (h.tb.lt k _ q));have ho4:=aI (fE (aI (aI (fE ho lb) o2 hKF) o3 hKF) ld) o4 hKF;have ho5:=aI (fE ho3 ld) o4 hKF2;have hF2:∀ b∈F,b<w2.heap.size:=fun b q=>by have:=ai.lt _ ho b q;omega
     have fpA:=aJ.cons (aJ.app h.tb (fp.mono la.size (Nat.le_refl i) (Nat.le_refl j)) hF2 (by omega) fp3 (by omega) (by omega) (by have:=(gX h.fit f).1 _ _ _ q3;omega)) (g:=w4.heap.size) (fun b q=>by
      rcases List.mem_append.1 q with q|q
      ·have:=hF2 b q;omega
      ·exact ai.lt _ ho5 b q) (by omega)
     have hrr:r=.ok (Ex.mk 10 n 0 0 [] [x,x2],j3+1):=by rw[<-hr2,q3];show PR.andThen (aG E [41] j3) _=_;unfold aG;rw[if_pos q4];rfl
     have HEnd:Hid (∀ W,af w.heap.size w4 W->af K w W->Bxx W K [tv,.int .i64 ((j3+1:Nat):Int),.int .i64 en,sv,fv]->Bxx W w4.heap.size ([.int .i64 x.kind,.int .i64 x.n,.int .i64 x.tk,.int .i64 x.tn,.slice a0 n0 c0,.slice a1 n1 c1]++[.int .i64 x2.kind,.int .i64 x2.n,.int .i64 x2.tk,.int .i64 x2.tn,.slice a2 n2 c2,.slice a3 n3 c3])->PcP E TX TB en S K tv sv fv w r (jl TB w.heap.size i) (.returned (.agg #[.int .i64 10,.int .i64 n,.int .i64 0,.int .i64 0,.slice none 0 0,.slice (some ⟨w4.heap.size,0,none⟩) 2 2])) W):=fun W oW oK hbK hbG=>by
      have hl:=xU hbG rfl rfl (aI ho4 oW hwF) (aI ho5 oW hwF2);refine PcP.yes hrr oK (h.ps.move oK hbK p4.le) ⟨_,_,_,rfl,Ex.own (x:=Ex.mk 10 n 0 0 [] [x,x2]) (F0:=[]) ?_ ?_,fpA.mono (Nat.le_refl _) (Nat.le_refl _) (Nat.le_succ _)⟩
      ·show ai W (.bytes []) [.slice none 0 0] [];rw[ai];exact⟨none,0,rfl,⟨by decide,by decide,by decide⟩,fun j=>(by simp[isB]),fun q=>(by cases q),fun _=>rfl⟩
      ·show ai W (.list 6 (Ex.ah [x,x2])) _ _;rw[Ex.ah,Ex.ah,Ex.ah];exact hl
     clear ho ho3 ho4 ho5 fp fp3 fpA HNo H hF2 hrr hr2;obtain⟨W,hW⟩:=hidx (((((((w4.setCell ⟨w.heap.size,0,none⟩ (.int .i64 10)).setCell ⟨w.heap.size,1,none⟩ (.int .i64 n)).setCell ⟨w.heap.size,2,none⟩ (.int .i64 0)).setCell ⟨w.heap.size,3,none⟩ (.int .i64 0)).setCell ⟨w.heap.size,4,none⟩ (.slice none 0 0)).setCell ⟨w.heap.size,5,none⟩ (.slice (some ⟨w4.heap.size,0,none⟩) 2 2)).alloc (.cells #[.int .i64 x.kind,.int .i64 x.n,.int .i64 x.tk,.int .i64 x.tn,.slice a0 n0 c0,.slice a1 n1 c1,.int .i64 x2.kind,.int .i64 x2.n,.int .i64 x2.tk,.int .i64 x2.tn,.slice a2 n2 c2,.slice a3 n3 c3] 148));have hXW:Bxx W w.heap.size [.int .i64 10,.int .i64 n,.int .i64 0,.int .i64 0,.slice none 0 0,.slice (some ⟨w4.heap.size,0,none⟩) 2 2]:=by rw[hW.out];exact ((((((hX4.set 0 _ (by simp)).set 1 _ (by simp)).set 2 _ (by simp)).set 3 _ (by simp)).set 4 _ (by simp)).set 5 _ (by simp)).alloc _
     have e0:=(hXW.cell 0 _ rfl).1;have e1:=(hXW.cell 1 _ rfl).1;have e2:=(hXW.cell 2 _ rfl).1;have e3:=(hXW.cell 3 _ rfl).1;have e4:=(hXW.cell 4 _ rfl).1;have e5:=(hXW.cell 5 _ rfl).1
     have hZ:=HEnd.out W (by rw[hW.out];exact ((((((((af.refl _ w4).set 0 _).set 1 _).set 2 _).set 3 _).set 4 _).set 5 _).alloc _)) (by
      rw[hW.out];refine af.alloc ?_ _
      repeat (first|with_reducible exact od.trans o4|refine af.iG ?_ (Nat.le_refl _) _ _)) (by
      rw[hW.out];refine Bxx.alloc ?_ _
      repeat (first|with_reducible exact p4.box|refine Bxx.other ?_ (Ne.symm hK) _)) (by
      rw[hW.out];have:=Bxx.new ((((((w4.setCell ⟨w.heap.size,0,none⟩ (.int .i64 10)).setCell ⟨w.heap.size,1,none⟩ (.int .i64 n)).setCell ⟨w.heap.size,2,none⟩ (.int .i64 0)).setCell ⟨w.heap.size,3,none⟩ (.int .i64 0)).setCell ⟨w.heap.size,4,none⟩ (.slice none 0 0)).setCell ⟨w.heap.size,5,none⟩ (.slice (some ⟨w4.heap.size,0,none⟩) 2 2)) #[.int .i64 x.kind,.int .i64 x.n,.int .i64 x.tk,.int .i64 x.tn,.slice a0 n0 c0,.slice a1 n1 c1,.int .i64 x2.kind,.int .i64 x2.n,.int .i64 x2.tk,.int .i64 x2.tn,.slice a2 n2 c2,.slice a3 n3 c3] 148
      simpa using this)
     have HZ:Hid _:=hZ;clear hZ HEnd hXW
     generalize PcP E TX TB en S K tv sv fv w r (jl TB w.heap.size i)=Q at *
     go_wp2_with fail
     rw[<-hW.out];exact bodyPost_ret (v:=.agg #[.int .i64 10,.int .i64 n,.int .i64 0,.int .i64 0,.slice none 0 0,.slice (some ⟨w4.heap.size,0,none⟩) 2 2]) (by simp[results,Tryz.results156,go_sem,e0,e1,e2,e3,e4,e5]) rfl HZ.out
    ·refine (dN hd.ps _ _ ku (by decide) q4).mono ?_;rintro e w4 ⟨rfl,o4⟩;have HZ:=HNo.out _ w4 (by rw[<-hr2,q3];show PR.andThen (aG E [41] j3) _=_;unfold aG;rw[if_neg q4];rfl) (od.trans o4);go_wp2_with fail
     exact⟨rfl,HZ⟩
structure Bp (TB:Nat->List Nat) (B i j:Nat) (w:World) (t:TypeId) (k:Nat) (v:Value) (l:List Dat) (xs:List Value) (F:List Nat):Prop where
 row:w.ownsRow B t k v l.length xs
 el:dX w k l xs F
 fp:aJ TB B i j F
 lt:∀ b∈F,b<w.heap.size
 sep:∀ b,v.ownBlock=some b->b∉F
theorem iq {K lo:Nat}{a w:World}(h:af K a w) (hK:K<lo):Kept lo a w:=⟨h.size,fun b hb hw=>h.block b hw (by omega)⟩
theorem Bp.nil (TB:Nat->List Nat) (B i j:Nat) (w:World) (t:TypeId) (k:Nat):Bp TB B i j w t k (.slice none 0 0) [] [] []:=⟨World.ownsRow_nil _ _ _ _,⟨rfl,rfl⟩,aJ.nil _ _ _ _,fun b hb=>(by cases hb),fun b hb=>(by cases hb)⟩
theorem Bp.only {TB:Nat->List Nat}{B i j K:Nat}{w w':World}{t:TypeId}{k:Nat}{v:Value}{l:List Dat}{xs:List Value}{F:List Nat}(h:Bp TB B i j w t k v l xs F) (o:af K w w') (hK:K<B) (ht:∀ k,K∉TB k):Bp TB B i j w' t k v l xs F :=
 ⟨cu h.row (iq o hK),dX.agree o.size l h.el (fun b hb=>o.block b (h.lt b hb) (fun e=>h.fp.iy hK ht (e ▸ hb))),h.fp,fun b hb=>Nat.lt_of_lt_of_le (h.lt b hb) o.size,h.sep⟩
theorem Bp.mono {TB:Nat->List Nat}{B i j i' j':Nat}{w:World}{t:TypeId}{k:Nat}{v:Value}{l:List Dat}{xs:List Value}{F:List Nat}(h:Bp TB B i j w t k v l xs F) (hi:i'<=i) (hj:j<=j'):Bp TB B i' j' w t k v l xs F :=
 ⟨h.row,h.el,h.fp.mono (Nat.le_refl _) hi hj,h.lt,h.sep⟩
theorem Bp.one {TB:Nat->List Nat}{B i j:Nat}{w:World}{t:TypeId}{k:Nat}{d:Dat}{cs:List Value}{F:List Nat}(hk:cs.length=k) (hB:B<=w.heap.size) (hd:ai w d cs F) (fp:aJ TB B i j F):Bp TB B i j (w.alloc (.cells cs.toArray t)) t k (.slice (some ⟨w.heap.size,0,none⟩) 1 1) [d] cs F:=by
 have l1:=ae w (.cells cs.toArray t);have hlt:=ai.lt d hd;refine⟨⟨by simp[hk],.inr ⟨w.heap.size,1,cs.toArray,rfl,hB,(MapKept.heap_alloc w _).1,Nat.le_refl _,by unfold maxLen;omega,by simp[hk],by subst hk;simp⟩⟩,⟨cs,[],F,[],(List.append_nil _).symm,(List.append_nil _).symm,hk,fE hd l1,rfl,rfl⟩,fp,fun b hb=>Nat.lt_of_lt_of_le (hlt b hb) l1.size,fun b hb q=>?_⟩
 cases hb
 exact Nat.lt_irrefl _ (hlt _ q)
theorem Bp.push {TB:Nat->List Nat}{B i j j1 j2 K:Nat}{wr w1 w2 w':World}{t:TypeId}{k:Nat}{v v':Value}{l:List Dat}{xs:List Value}{F:List Nat}(hT:BF TB B) (h:Bp TB B i j wr t k v l xs F) {d:Dat}{cs:List Value}{G:List Nat}(hk:cs.length=k) (o1:af K wr w1) (hK:K<B) (ht:∀ k,K∉TB k) (hB:B<=wr.heap.size) (hd:ai w1 d cs G) (hf:aJ TB wr.heap.size j1 j2 G) (l2:Later w1 w2) (hj:j<=j1) (hi:i<=j1) (hjj:j<=j2)
  (ho:w'.ownsRow B t k v' (l.length+1) (xs++cs)) (hg:w2.grownBy w' v.ownBlock) (hloc:v'.ownBlock=v.ownBlock\/v'.ownBlock=some w2.heap.size):Bp TB B i j2 w' t k v' (l++[d]) (xs++cs) (F++G):=by
 have s1:=o1.size;have s2:=l2.size;have s3:=hg.size;have hrow:∀ b,v.ownBlock=some b->B<=b/\b<wr.heap.size:=h.row.lt;have hG0:=ai.lt d hd
 have hsepG:∀ b,v.ownBlock=some b->b∉G:=fun b e q=>by
  have:=hrow b e;rcases hf.whr b q with a|⟨m,_,_,a⟩
  ·omega
  ·have:=hT.lt m b a;omega
 have hF:∀ b∈F,w'.heap[b]?=wr.heap[b]?:=fun b hb=>by
  have:=h.lt b hb;rw[hg.block b (by omega) (fun e=>h.sep b e.symm hb),l2.block b (by omega),o1.block b (by omega) (fun e=>h.fp.iy hK ht (e ▸ hb))]
 have hG:∀ b∈G,w'.heap[b]?=w1.heap[b]?:=fun b hb=>by
  have:=hG0 b hb;rw[hg.block b (by omega) (fun e=>hsepG b e.symm hb),l2.block b (by omega)]
 refine⟨by rw[List.length_append];exact ho,dX.snoc hk (ai.agree (by omega) _ hd hG) _ (dX.agree (by omega) _ h.el hF),aJ.app hT h.fp h.lt hB hf hj hi hjj,fun b hb=>?_,fun b hb hm=>?_⟩
 ·rcases List.mem_append.1 hb with q|q
  ·have:=h.lt b q;omega
  ·have:=hG0 b q;omega
 ·rcases hloc with e|e
  ·rw[e]at hb;rcases List.mem_append.1 hm with q|q
   ·exact h.sep b hb q
   ·exact hsepG b hb q
  ·rw[e]at hb
   cases hb
   rcases List.mem_append.1 hm with q|q
   ·have:=h.lt _ q;omega
   ·have:=hG0 _ q;omega
theorem kK {K:Nat}{w wr w1 w2 w':World}{v:Value}{B:Nat}(oR:af K w wr) (o1:af K wr w1) (l2:Later w1 w2) (hg:w2.grownBy w' v.ownBlock) (hb:∀ b,v.ownBlock=some b->B<=b/\b<wr.heap.size) (hB:B=w.heap.size):af K w w':=by
 have oz:af K w w2:=(oR.trans o1).trans (af.of_later l2);exact⟨hg.os.trans oz.os,hg.tape.trans oz.tape,hg.output.trans oz.output,Nat.le_trans oz.size hg.size,fun b hl hn=>by rw[hg.block b (Nat.lt_of_lt_of_le hl oz.size) (fun e=>by have:=(hb b e.symm).1;omega)];exact oz.block b hl hn⟩
theorem Bp.done {TB:Nat->List Nat}{B i j:Nat}{w:World}{t:TypeId}{k:Nat}{v:Value}{l:List Dat}{xs:List Value}{F:List Nat}(h:Bp TB B i j w t k v l xs F) (hs:l.length<=1048576):∃ G,ai w (.list k l) [v] G/\aJ TB B i j G:=by
 rcases h.row.2 with ⟨rfl,e⟩|⟨g,cap,cur,rfl,h1,h2,h3,h4,h5,h6⟩
 ·refine⟨[],?_,aJ.nil _ _ _ _⟩;rw[ai];exact⟨none,0,by rw[e],⟨hs,by omega,by unfold maxLen;omega⟩,fun hp=>by omega,fun _=>rfl⟩
 ·have hlt:=(h.row.lt g rfl).2;rcases Nat.eq_zero_or_pos l.length with h0|h0
  ·refine⟨[],?_,aJ.nil _ _ _ _⟩;rw[ai];exact⟨_,cap,rfl,⟨hs,h3,h4⟩,fun hp=>by omega,fun _=>rfl⟩
  ·refine⟨g::F,?_,⟨List.nodup_cons.2 ⟨h.sep g rfl,h.fp.one⟩,fun b hb=>?_⟩⟩
   ·rw[ai];refine⟨_,cap,rfl,⟨hs,h3,h4⟩,fun _=>⟨g,F,rfl,rfl,hlt,dX.own l h.el (fun m u hm=>?_)⟩,fun hp=>by omega⟩;rw[Nat.zero_mul,Nat.zero_add]
    have hm':m<l.length*k:=by
     rw[<-h.row.1];rcases Nat.lt_or_ge m xs.length with q|q
     ·exact q
     ·rw[List.getElem?_eq_none q]at hm;cases hm
    exact⟨by rw[h.row.cellAt m hm'];exact hm,h.row.frozenAt m⟩
   ·rcases List.mem_cons.1 hb with rfl|hb
    ·exact .inl h1
    ·exact h.fp.whr b hb
theorem aJ.up {TB:Nat->List Nat}{B B' i j:Nat}{F:List Nat}(h:aJ TB B i j F) (hF:∀ b∈F,B'<=b\/b<B):aJ TB B' i j F:=⟨h.one,fun b q=>by
 rcases h.whr b q with a|a
 ·rcases hF b q with c|c
  ·exact .inl c
  ·omega
 ·exact .inr a⟩
theorem gu (w:World):ai w (.bytes []) [.slice none 0 0] []:=by
 rw[ai];exact⟨none,0,rfl,⟨by decide,by decide,by decide⟩,fun j=>(by simp[isB]),fun q=>(by cases q),fun _=>rfl⟩
theorem jE (w:World) (k:Nat):ai w (.list k []) [.slice none 0 0] []:=by
 rw[ai];exact⟨none,0,rfl,⟨by decide,by decide,by decide⟩,fun q=>(by cases q),fun _=>rfl⟩
theorem Ps.nameAt {E:ak}{TX:Nat->Value}{TB:Nat->List Nat}{en:Int}{S:List Sc}{K:Nat}{tv sv fv:Value}{w:World}{i:Nat}(h:Ps E TX TB en S K tv sv fv w i) {k:Nat}(hk:k<E.l.length):ai w (.bytes (E.txt k)) [TX k] (TB k):=by
 have e2:E.txt k=E.l[k].2.2.2:=by unfold ak.txt;rw[List.getElem?_eq_getElem hk]
 rw[e2];exact (h.tks w (af.refl _ _)).txt k hk
theorem lG {E:ak}{TX:Nat->Value}{TB:Nat->List Nat}{en:Int}{S:List Sc}{K:Nat}{tv sv fv:Value}{w:World}{i:Nat}(h:Pz E TX TB en S K tv sv fv w i) {w4:World}{r:PR Ex}{kd n tk tn:Int}{nm:List Int}{ks:List Ex}{j:Nat}{u0 u1:Value}{F0 F1:List Nat}{c0 c1 c2 c3 c4 c5:Value}(hr:r=.ok (.mk kd n tk tn nm ks,j)) (o:af K w w4) (p:Ps E TX TB en S K tv sv fv w4 j) (hb:Bxx w4 w.heap.size [c0,c1,c2,c3,c4,c5]) (h0:ai w4 (.bytes nm) [u0] F0) (h1:ai w4 (.list 6 (Ex.ah ks)) [u1] F1) (fp:aJ TB (w.heap.size+1) i j (F0++F1)) :
  ∃ W,Hid (W=(((((w4.setCell ⟨w.heap.size,0,none⟩ (.int .i64 kd)).setCell ⟨w.heap.size,1,none⟩ (.int .i64 n)).setCell ⟨w.heap.size,2,none⟩ (.int .i64 tk)).setCell ⟨w.heap.size,3,none⟩ (.int .i64 tn)).setCell ⟨w.heap.size,4,none⟩ u0).setCell ⟨w.heap.size,5,none⟩ u1)/\Bxx W w.heap.size [.int .i64 kd,.int .i64 n,.int .i64 tk,.int .i64 tn,u0,u1]/\Hid (PcP E TX TB en S K tv sv fv w r (jl TB w.heap.size i) (.returned (.agg #[.int .i64 kd,.int .i64 n,.int .i64 tk,.int .i64 tn,u0,u1])) W):=by
 obtain⟨W,hW⟩:=hidx ((((((w4.setCell ⟨w.heap.size,0,none⟩ (.int .i64 kd)).setCell ⟨w.heap.size,1,none⟩ (.int .i64 n)).setCell ⟨w.heap.size,2,none⟩ (.int .i64 tk)).setCell ⟨w.heap.size,3,none⟩ (.int .i64 tn)).setCell ⟨w.heap.size,4,none⟩ u0).setCell ⟨w.heap.size,5,none⟩ u1);have hK:K≠w.heap.size:=by have:=h.ps.box.lt;omega
 have oK:af K w W:=by
  rw[hW.out]
  repeat (first|with_reducible exact o|refine af.iG ?_ (Nat.le_refl _) _ _)
 have oR:af w.heap.size w4 W:=by
  rw[hW.out];exact ((((((af.refl _ w4).set 0 _).set 1 _).set 2 _).set 3 _).set 4 _).set 5 _
 have hbK:Bxx W K [tv,.int .i64 (j:Int),.int .i64 en,sv,fv]:=by
  rw[hW.out]
  repeat (first|with_reducible exact p.box|refine Bxx.other ?_ hK _)
 have hn:∀ (F:List Nat),(∀ b∈F,b∈F0++F1)->w.heap.size∉F:=fun F hF q=>by
  rcases fp.whr _ (hF _ q) with a|⟨k,_,_,a⟩
  ·omega
  ·exact Nat.lt_irrefl _ (h.tb.lt k _ a)
 refine⟨W,hW,by rw[hW.out];exact (((((hb.set 0 _ (by simp)).set 1 _ (by simp)).set 2 _ (by simp)).set 3 _ (by simp)).set 4 _ (by simp)).set 5 _ (by simp),PcP.yes hr oK (h.ps.move oK hbK p.le) ⟨_,_,_,rfl,Ex.own (x:=Ex.mk kd n tk tn nm ks) (aI h0 oR (hn F0 fun b q=>List.mem_append_left _ q)) (aI h1 oR (hn F1 fun b q=>List.mem_append_right _ q)),fp.mono (Nat.le_succ _) (Nat.le_refl _) (Nat.le_refl _)⟩⟩
theorem sK {E:ak}{TX:Nat->Value}{TB:Nat->List Nat}{en:Int}{S:List Sc}{K:Nat}{tv sv fv:Value}{w:World}{i:Nat}(h:Pz E TX TB en S K tv sv fv w i) (q:aQ (E.txt i)=true):Calls Tryz.prog 44 #[.pointer (some ⟨K,0,none⟩)] w fun e w'=>e=.returned (TX i)/\af K w w'/\Pz E TX TB en S K tv sv fv w' (i+1) :=
 (oU E TX TB en S K tv sv fv w i h.ps h.nm).mono fun _ _ r=>by
  obtain⟨v,e1,p,e2⟩:=r.well (E.txt i) (i+1) (by unfold eX;rw[h.nm,if_pos q]);exact⟨by rw[e1,e2],r.only,h.go r.only p⟩
theorem ww {E:ak}{TX:Nat->Value}{TB:Nat->List Nat}{en:Int}{S:List Sc}{K:Nat}{tv sv fv:Value}{w:World}{i:Nat}(h:Pz E TX TB en S K tv sv fv w i) (q:¬ aQ (E.txt i)=true):Calls Tryz.prog 44 #[.pointer (some ⟨K,0,none⟩)] w fun e w'=>e=.panicked [{ v:=.iface 36 (.int .i64 (E.pos en i)),recovered:=false }]/\af K w w' :=
 (oU E TX TB en S K tv sv fv w i h.ps h.nm).mono fun _ _ r=>⟨r.bad i (by unfold eX;rw[h.nm,if_neg q]),r.only⟩
theorem Pz.adv {E:ak}{TX:Nat->Value}{TB:Nat->List Nat}{en:Int}{S:List Sc}{K:Nat}{tv sv fv:Value}{w w':World}{i j:Nat}(h:Pz E TX TB en S K tv sv fv w i) (o:af K w w') (hb:Bxx w' K [tv,.int .i64 (j:Int),.int .i64 en,sv,fv]) (hj:j<=E.l.length):Pz E TX TB en S K tv sv fv w' j:=h.go o (h.ps.move o hb hj)
def nxt (K:Nat) (w:World):Nat:=match w.cell? ⟨K,1,none⟩ with
 | some (.int _ n)=>n.toNat
 | _=>0
theorem Ps.nxt {E:ak}{TX:Nat->Value}{TB:Nat->List Nat}{en:Int}{S:List Sc}{K:Nat}{tv sv fv:Value}{w:World}{i:Nat}(h:Ps E TX TB en S K tv sv fv w i):nxt K w=i:=by
 unfold Go.Proofs.YtgaddpkkjebekaaGreatDoor.nxt;rw[(h.box.cell 1 _ rfl).1];simp
def gW (E:ak) (f i:Nat):PR (List Ex):=PR.andThen (aG E [40] i) fun _ i=>nG E (f+1) i
theorem OE {E:ak}{f i:Nat}(q:E.txt i≠[40]):gW E f i=.error i:=by unfold gW aG;rw[if_neg q];rfl
theorem Md {E:ak}{f i:Nat}(q:E.txt i=[40]) (q2:E.txt (i+1)=[41]):gW E f i=.ok ([],i+1+1):=by unfold gW aG;rw[if_pos q];show nG E (f+1) (i+1)=_;rw[nG,if_pos q2]
theorem OG {E:ak}{f i:Nat}(q:E.txt i=[40]) (q2:E.txt (i+1)≠[41]):gW E f i=PR.andThen (pE E f (i+1)) fun k i=>iJ E f [k] i:=by unfold gW aG;rw[if_pos q];show nG E (f+1) (i+1)=_;rw[nG,if_neg q2]
theorem Mc {E:ak}{g j:Nat}{ks:List Ex}(q:E.txt j=[41]):iJ E (g+1) ks j=.ok (ks,j+1):=by rw[iJ,if_pos q]
theorem OC {E:ak}{g j:Nat}{ks:List Ex}(q:E.txt j≠[41]) (q2:E.txt j≠[44]):iJ E (g+1) ks j=.error j:=by rw[iJ,if_neg q];unfold aG;rw[if_neg q2];rfl
theorem OD {E:ak}{g j:Nat}{ks:List Ex}(q:E.txt j≠[41]) (q2:E.txt j=[44]):iJ E (g+1) ks j=PR.andThen (pE E g (j+1)) fun k i=>iJ E g (ks++[k]) i:=by rw[iJ,if_neg q];unfold aG;rw[if_pos q2];rfl
def pV {α:Type}(ah:List α->List Dat) (k:Nat) (TB:Nat->List Nat) (B i:Nat) (x:List α) (j:Nat) (v:Value) (w:World):Prop:=∃ a c F,v=.slice a x.length c/\ai w (.list k (ah x)) [.slice a x.length c] F/\aJ TB B i j F/\x.length<=6000
theorem Ex.gq (ks:List Ex) (x:Ex):Ex.ah (ks++[x])=Ex.ah ks++[x.dat]:=by rw[Ex.dC,Ex.dC,List.map_append];rfl
theorem AO {f:Nat}(H:∀ g,g<=f->ExC g) (E:ak) (TX:Nat->Value) (TB:Nat->List Nat) (en:Int) (S:List Sc) (K:Nat) (tv sv fv:Value) (w:World) (i:Nat) (h:Pz E TX TB en S K tv sv fv w i) (hf:4*(E.l.length - i)<=f):Calls Tryz.prog 171 #[.pointer (some ⟨K,0,none⟩),.func (.func 105) #[.pointer (some ⟨K,0,none⟩)] #[]] w (PcP E TX TB en S K tv sv fv w (gW E f i) (pV Ex.ah 6 TB w.heap.size i)):=by
 have HNo:Hid (∀ k w',gW E f i=.error k->af K w w'->PcP E TX TB en S K tv sv fv w (gW E f i) (pV Ex.ah 6 TB w.heap.size i) (.panicked [{ v:=.iface 36 (.int .i64 (E.pos en k)),recovered:=false }]) w'):=fun k w' e o=>PcP.no e o;have HY:Hid (∀ ks j w' a n c F,gW E f i=.ok (ks,j)->af K w w'->Ps E TX TB en S K tv sv fv w' j->n=ks.length->ai w' (.list 6 (Ex.ah ks)) [.slice a n c] F->aJ TB w.heap.size i j F->ks.length<=6000->PcP E TX TB en S K tv sv fv w (gW E f i) (pV Ex.ah 6 TB w.heap.size i) (.returned (.slice a n c)) w'):=fun ks j w' a n c F e o p hn q r l=>by subst hn;exact PcP.yes e o p ⟨a,c,F,rfl,q,r,l⟩
 generalize PcP E TX TB en S K tv sv fv w (gW E f i) (pV Ex.ah 6 TB w.heap.size i)=Q at *
 obtain⟨i0,hi,hz0,hz1,hz2⟩:=info_parts Tryz.J7;have hKl:=h.ps.box.lt;have hfew:=(h.ps.tks w (af.refl _ _)).few;go_enter Tryz.func171,Tryz.ntmps171;go_wp2_with fail
 by_cases q1:E.txt i=[40]
 ·have hil:=ak.aX (E:=E) (i:=i) (by rw[q1];decide);refine (df h.ps _ _ oO (by decide) q1).mono ?_;rintro e w1 ⟨rfl,o1,p1⟩;go_wp2_with fail
  by_cases q2:E.txt (i+1)=[41]
  ·refine (bG p1 _ _ ku (by decide) q2).mono ?_;rintro e w2 ⟨rfl,o2,p2⟩;have HZ:=HY.out [] _ w2 none 0 0 [] (Md q1 q2) (o1.trans o2) p2 rfl (jE _ _) (aJ.nil _ _ _ _) (Nat.zero_le _);go_wp2_with fail
   exact HZ
  ·refine (bT p1 _ _ ku (by decide) q2).mono ?_;rintro e w2 ⟨rfl,o2,p2⟩;have h2:=h.go (o1.trans o2) p2;have hin:=OG (f:=f) q1 q2;go_wp2_with fail
   cases q3:pE E f (i+1) with
   | error k =>
    refine (Du (H f (Nat.le_refl _)) h2 (by omega) q3).mono ?_;rintro e w3 ⟨rfl,o3⟩;have HZ:=HNo.out _ w3 (by rw[hin,q3];rfl) ((o1.trans o2).trans o3);go_wp2_with fail
    exact⟨rfl,HZ⟩
   | ok y =>
    obtain⟨x,j⟩:=y;refine (yh (H f (Nat.le_refl _)) h2 (by omega) q3).mono ?_;rintro e w3 ⟨u0,u1,F,rfl,o3,h3,ho,fp⟩;obtain⟨a0,n0,c0,a1,n1,c1,rfl,rfl⟩:=iU ho;have hadv:=(gX h.fit f).1 _ _ _ q3;have hin2:gW E f i=iJ E f [x] j:=by rw[hin,q3];rfl
    have o13:=(o1.trans o2).trans o3;obtain⟨wa,hwa⟩:=hidx (w3.alloc (.cells #[.int .i64 x.kind,.int .i64 x.n,.int .i64 x.tk,.int .i64 x.tn,.slice a0 n0 c0,.slice a1 n1 c1] 148));have la:Later w3 wa:=by rw[hwa.out];exact ae _ _
    have oa:af K w wa:=o13.trans (af.of_later la);have ha:=h3.later la;have hBa:Bp TB w.heap.size i j wa 148 6 (.slice (some ⟨w3.heap.size,0,none⟩) 1 1) (Ex.ah [x]) [.int .i64 x.kind,.int .i64 x.n,.int .i64 x.tk,.int .i64 x.tn,.slice a0 n0 c0,.slice a1 n1 c1] F:=by rw[hwa.out,Ex.ah,Ex.ah];exact Bp.one rfl o13.size ho (fp.mono (o1.trans o2).size (Nat.le_succ _) (Nat.le_refl _))
    have HA:Hid (gW E f i=iJ E f [x] j/\f<=f/\4*(E.l.length - j)+3<=f/\[x].length<=j/\i<=j):=⟨hin2,Nat.le_refl _,by omega,by simp;omega,by omega⟩
    clear hin hin2 ho fp h2 p2 p1;go_wp2_with fail
    rw[<-hwa.out];go_loopw [5] (fun r wr=>∃ (g j:Nat) (ks:List Ex) (xs:List Value) (F:List Nat) (rv:Value),rv=r/\Pz E TX TB en S K tv sv fv wr j/\af K w wr/\Bp TB w.heap.size i j wr 148 6 rv (Ex.ah ks) xs F/\Hid (gW E f i=iJ E g ks j/\g<=f/\4*(E.l.length - j)+3<=g/\ks.length<=j/\i<=j)) (fun _ wr=>E.l.length - nxt K wr)
    case atStart=>exact⟨f,j,[x],_,F,_,rfl,ha,oa,hBa,HA⟩
    case round =>
     clear ha oa hBa HA q3 hadv la hwa h3;obtain⟨g,j',ks,xs,F',rv,rfl,hR,oR,hB,HR⟩:=hrel
     obtain⟨g,rfl⟩:∃ g',g=g'+1:=⟨g - 1,by have:=HR.out;omega⟩
     have hrow:=hB.row;obtain⟨n,hn⟩:=hidx (Ex.ah ks).length;rw[<-hn.out]at hrow;have hnk:n=ks.length:=by rw[hn.out,Ex.az]
     have hHR:=HR.out;have hjl:=hR.ps.le;obtain⟨ra,rc,rfl⟩:=aP hrow;have hlt:=hrow.lt;have hn6:n<=6000:=by omega
     have HG:Hid _:=hnk
     have HE:Hid (gW E f i=iJ E (g+1) ks j'/\g+1<=f/\4*(E.l.length - j')+3<=g+1):=⟨hHR.1,hHR.2.1,hHR.2.2.1⟩
     have HKj:Hid (ks.length<=j'):=hHR.2.2.2.1;have hij:=hHR.2.2.2.2;clear HR hHR hnk;go_wp2_with fail
     by_cases q4:E.txt j'=[41]
     ·refine (bG hR.ps _ _ ku (by decide) q4).mono ?_;rintro e w4 ⟨rfl,o4,p4⟩;obtain⟨G,hG1,hG2⟩:=(hB.only o4 hKl h.kt).done (by rw[Ex.az];have:=HG.out;omega);have HZ:=HY.out ks (j'+1) w4 ra n rc G (by rw[HE.out.1];exact Mc q4) (oR.trans o4) p4 HG.out hG1 (hG2.mono (Nat.le_refl _) (Nat.le_refl _) (Nat.le_succ _)) (by have:=HG.out;omega);go_wp2_with fail
      exact HZ
     ·refine (bT hR.ps _ _ ku (by decide) q4).mono ?_;rintro e w4 ⟨rfl,o4,p4⟩;go_wp2_with fail
      by_cases q5:E.txt j'=[44]
      ·have hjl2:=ak.aX (E:=E) (i:=j') (by rw[q5];decide);refine (df p4 _ _ sQ (by decide) q5).mono ?_;rintro e w5 ⟨rfl,o5,p5⟩;have h5:=hR.go (o4.trans o5) p5;have hin:=HE.out.1.trans (OD q4 q5);have hfu:4*(E.l.length - (j'+1))+3<=g:=by have:=HE.out.2;omega
       have hgf:g<=f:=by have:=HE.out.2;omega
       go_wp2_with fail
       cases q6:pE E g (j'+1) with
       | error k =>
        refine (Du (H g hgf) h5 hfu q6).mono ?_;rintro e w6 ⟨rfl,o6⟩;have HZ:=HNo.out _ w6 (by rw[hin,q6];rfl) (oR.trans ((o4.trans o5).trans o6));go_wp2_with fail
        exact⟨rfl,HZ⟩
       | ok y =>
        obtain⟨x2,j2⟩:=y;refine (yh (H g hgf) h5 hfu q6).mono ?_;rintro e w6 ⟨u0,u1,G,rfl,o6,h6,ho6,fp6⟩;obtain⟨b0,m0,d0,b1,m1,d1,rfl,rfl⟩:=iU ho6;have hadv:=(gX h.fit g).1 _ _ _ q6;have oo:=(o4.trans o5).trans o6
        have hin2:Hid (gW E f i=iJ E g (ks++[x2]) j2/\g<=f/\4*(E.l.length - j2)+3<=g/\(ks++[x2]).length<=j2/\i<=j2):=⟨by rw[hin,q6];rfl,hgf,by omega,by have:=HKj.out;simp;omega,by omega⟩
        have HPU:Hid (∀ w' v',w'.ownsRow w.heap.size 148 6 v' (n+1) (xs++[.int .i64 x2.kind,.int .i64 x2.n,.int .i64 x2.tk,.int .i64 x2.tn,.slice b0 m0 d0,.slice b1 m1 d1])->∀ wz,Later w6 wz->wz.grownBy w' (Value.slice ra n rc).ownBlock->(v'.ownBlock=(Value.slice ra n rc).ownBlock\/v'.ownBlock=some wz.heap.size)->af K w w'/\Pz E TX TB en S K tv sv fv w' j2/\Bp TB w.heap.size i j2 w' 148 6 v' (Ex.ah (ks++[x2])) (xs++[.int .i64 x2.kind,.int .i64 x2.n,.int .i64 x2.tk,.int .i64 x2.tn,.slice b0 m0 d0,.slice b1 m1 d1]) (F'++G)):=fun w' v' ho wz lz hg hloc=>by
         have oK:=kK oR oo lz hg hlt rfl;have hbz:=h6.ps.box.later lz;refine⟨oK,h.adv oK (hbz.kept hg.size (hg.block K hbz.lt fun e=>by have:=(hlt K e.symm).1;omega)) h6.ps.le,?_⟩;rw[Ex.gq];exact hB.push h.tb rfl oo hKl h.kt oR.size ho6 (fp6.mono (o4.trans o5).size (Nat.le_refl _) (Nat.le_refl _)) lz (Nat.le_succ _) (by omega) (by omega) (by rw[<-hn.out];exact ho) hg hloc
        have hrA:w6.ownsRow w.heap.size 148 6 (.slice ra n rc) n xs:=cu hrow (iq oo hKl);have bA:w.heap.size<=w6.heap.size:=(oR.trans oo).size
        have HM:Hid (nxt K wr=j'/\j'<j2/\j2<=E.l.length):=⟨hR.ps.nxt,by omega,h6.ps.le⟩
        clear hB hin q6 ho6 fp6 h5 p5 p4 HE HKj hadv HY HNo H q5 q4 o6 o5 o4 hfu hgf hR;go_wp2_with (at_builtin;refine wpList_append_own_at _ rfl _ _ 108 rfl w.heap.size 148 i0 (.agg #[.int .i64 0,.int .i64 0,.int .i64 0,.int .i64 0,.slice none 0 0,.slice none 0 0]) 6 80 Tryz.underlying108 hi hz0 hz1 hz2 rfl (by decide) _ _ _ rfl (hrA.alloc _) _ 1 1 [.int .i64 x2.kind,.int .i64 x2.n,.int .i64 x2.tk,.int .i64 x2.tn,.slice b0 m0 d0,.slice b1 m1 d1] rfl rfl (fA _ _ _ (by simp)) (by simp[Value.oneCell']) (by unfold maxLen;omega) (by omega) (Nat.le_trans bA (ae _ _).size) ?_;intro v9 w9 o9 g9 _ h9;obtain⟨L9,P9,B9⟩:=HPU.out _ _ o9 _ (ae _ _) g9 h9;obtain⟨a9,p9,hv9⟩:=aP o9;rw[hv9]at B9 o9 ⊢)
        go_roundw
        case rel=>exact⟨g,j2,ks++[x2],_,_,_,rfl,P9,L9,B9,hin2⟩
        case measure =>
         rw[P9.ps.nxt,HM.out.1];have:=HM.out;omega
      ·refine (dN p4 _ _ sQ (by decide) q5).mono ?_;rintro e w5 ⟨rfl,o5⟩;have HZ:=HNo.out _ w5 (by rw[HE.out.1];exact OC q4 q5) (oR.trans (o4.trans o5));go_wp2_with fail
       exact⟨rfl,HZ⟩
 ·refine (dN h.ps _ _ oO (by decide) q1).mono ?_;rintro e w1 ⟨rfl,o1⟩;have HZ:=HNo.out _ w1 (OE q1) o1;go_wp2_with fail
  exact⟨rfl,HZ⟩
theorem Bxx.six {w:World}{B:Nat}{a b c d e f:Value}(h:Bxx w B [a,b,c,d,e,f]):((w.cell? ⟨B,0,none⟩=some a/\w.frozen? ⟨B,0,none⟩=false)/\(w.cell? ⟨B,1,none⟩=some b/\w.frozen? ⟨B,1,none⟩=false)/\(w.cell? ⟨B,2,none⟩=some c/\w.frozen? ⟨B,2,none⟩=false)/\(w.cell? ⟨B,3,none⟩=some d/\w.frozen? ⟨B,3,none⟩=false)/\(w.cell? ⟨B,4,none⟩=some e/\w.frozen? ⟨B,4,none⟩=false)/\(w.cell? ⟨B,5,none⟩=some f/\w.frozen? ⟨B,5,none⟩=false))/\B<w.heap.size :=
 ⟨⟨h.cell 0 _ rfl,h.cell 1 _ rfl,h.cell 2 _ rfl,h.cell 3 _ rfl,h.cell 4 _ rfl,h.cell 5 _ rfl⟩,h.lt⟩
theorem O6 {f:Nat}(H:∀ g,g<=f->ExC g) {E:ak}{TX:Nat->Value}{TB:Nat->List Nat}{en:Int}{S:List Sc}{K:Nat}{tv sv fv:Value}{w:World}{i:Nat}(h:Pz E TX TB en S K tv sv fv w i) (hf:4*(E.l.length - i)<=f) {x:List Ex}{j:Nat}(q:gW E f i=.ok (x,j)):Calls Tryz.prog 171 #[.pointer (some ⟨K,0,none⟩),.func (.func 105) #[.pointer (some ⟨K,0,none⟩)] #[]] w fun e w'=>∃ a c F,e=.returned (.slice a x.length c)/\af K w w'/\Pz E TX TB en S K tv sv fv w' j/\ai w' (.list 6 (Ex.ah x)) [.slice a x.length c] F/\aJ TB w.heap.size i j F :=
 (AO H E TX TB en S K tv sv fv w i h hf).mono fun _ _ r=>by
  obtain⟨v,e1,p,a,c,F,e2,o,fp,_⟩:=r.well x j q;exact⟨a,c,F,by rw[e1,e2],r.only,h.go r.only p,o,fp⟩
theorem SB {f:Nat}(H:∀ g,g<=f->ExC g) {E:ak}{TX:Nat->Value}{TB:Nat->List Nat}{en:Int}{S:List Sc}{K:Nat}{tv sv fv:Value}{w:World}{i:Nat}(h:Pz E TX TB en S K tv sv fv w i) (hf:4*(E.l.length - i)<=f) {k:Nat}(q:gW E f i=.error k):Calls Tryz.prog 171 #[.pointer (some ⟨K,0,none⟩),.func (.func 105) #[.pointer (some ⟨K,0,none⟩)] #[]] w fun e w'=>e=.panicked [{ v:=.iface 36 (.int .i64 (E.pos en k)),recovered:=false }]/\af K w w' :=
 (AO H E TX TB en S K tv sv fv w i h hf).mono fun _ _ r=>⟨r.bad k q,r.only⟩
def yT (E:ak) (f i:Nat):PR Ex:=PR.andThen (eX E i) fun a i=>if E.txt i=[40] then PR.andThen (nG E (f+1) (i+1)) fun ks i=>.ok (.mk 6 0 0 0 a ks,i) else .ok (.mk 3 0 0 0 a [],i)
theorem nz {E:ak}{i:Nat}(hn:E.nm=aQ) (q:aQ (E.txt i)=true):eX E i=.ok (E.txt i,i+1):=by unfold eX;rw[hn,if_pos q]
theorem wM {E:ak}{i:Nat}(hn:E.nm=aQ) (q:¬ aQ (E.txt i)=true):eX E i=.error i:=by unfold eX;rw[hn,if_neg q]
theorem Rw {E:ak}{f i:Nat}(hn:E.nm=aQ) (q:¬ aQ (E.txt i)=true):yT E f i=.error i:=by unfold yT;rw[wM hn q];rfl
theorem Oo {E:ak}{f i:Nat}(hn:E.nm=aQ) (q:aQ (E.txt i)=true) (q2:E.txt (i+1)≠[40]):yT E f i=.ok (.mk 3 0 0 0 (E.txt i) [],i+1):=by unfold yT;rw[nz hn q];show (if E.txt (i+1)=[40] then _ else _)=_;rw[if_neg q2]
theorem LJ {E:ak}{f i:Nat}(hn:E.nm=aQ) (q:aQ (E.txt i)=true) (q2:E.txt (i+1)=[40]):yT E f i=PR.andThen (gW E f (i+1)) fun ks j=>.ok (.mk 6 0 0 0 (E.txt i) ks,j):=by unfold yT gW;rw[nz hn q];show (if E.txt (i+1)=[40] then _ else _)=_;rw[if_pos q2];unfold aG;rw[if_pos q2];rfl
theorem CY {f:Nat}(H:∀ g,g<=f->ExC g) (E:ak) (TX:Nat->Value) (TB:Nat->List Nat) (en:Int) (S:List Sc) (K:Nat) (tv sv fv:Value) (w:World) (i:Nat) (h:Pz E TX TB en S K tv sv fv w i) (hf:4*(E.l.length - i)<=f):Calls Tryz.prog 158 #[.pointer (some ⟨K,0,none⟩)] w (PcP E TX TB en S K tv sv fv w (yT E f i) (jl TB w.heap.size i)):=by
 have HNo:Hid (∀ k w',yT E f i=.error k->af K w w'->PcP E TX TB en S K tv sv fv w (yT E f i) (jl TB w.heap.size i) (.panicked [{ v:=.iface 36 (.int .i64 (E.pos en k)),recovered:=false }]) w'):=fun k w' e o=>PcP.no e o
 generalize hr:yT E f i=r at *
 obtain⟨wa,hwa⟩:=hidx (w.alloc (.cells #[.int .i64 0,.int .i64 0,.int .i64 0,.int .i64 0,.slice none 0 0,.slice none 0 0] 148));have la:Later w wa:=by rw[hwa.out];exact ae _ _
 have ha:=h.later la;have hbx:Bxx wa w.heap.size [.int .i64 0,.int .i64 0,.int .i64 0,.int .i64 0,.slice none 0 0,.slice none 0 0]:=by rw[hwa.out];exact Bxx.new _ _ _
 have oa:af K w wa:=af.of_later la;have hK:w.heap.size≠K:=by have:=h.ps.box.lt;omega
 go_enter Tryz.func158,Tryz.ntmps158;go_wp2_with fail
 rw[<-hwa.out];by_cases q1:aQ (E.txt i)=true
 ·have hi:=ak.aX (E:=E) (i:=i) (fun e=>by rw[e]at q1;revert q1;decide);refine (sK ha q1).mono ?_;rintro e w1 ⟨rfl,o1,h1⟩;obtain⟨xa,xc,hx⟩:=jb (h1.ps.nameAt hi);have o01:=oa.trans o1;rw[hx];go_wp2_with fail
  refine (nT E TX TB en S K tv sv fv w1 (i+1) h1.ps _ _ oO).mono ?_;rintro e w2 ⟨rfl,l2⟩;have o02:=o01.trans (af.of_later l2);have h2:=h1.later l2;have hb2:=(hbx.only o1 hK).later l2;by_cases q2:E.txt (i+1)=[40]
  ·have hc:=(LJ h.nm q1 q2).symm.trans hr;clear hr;rw[decide_eq_true q2];go_wp2_with fail
   cases q3:gW E f (i+1) with
   | error k =>
    refine (SB H h2 (by omega) q3).mono ?_;rintro e w3 ⟨rfl,o3⟩;have HZ:=HNo.out _ w3 (by rw[<-hc,q3];rfl) (o02.trans o3);go_wp2_with fail
    exact⟨rfl,HZ⟩
   | ok y =>
    obtain⟨ks,j⟩:=y;refine (O6 H h2 (by omega) q3).mono ?_;rintro e w3 ⟨a,c,G,rfl,o3,h3,hG,fG⟩;have hs:=hbx.lt;have s2:=(o1.trans (af.of_later l2)).size;have hn3:=h3.ps.nameAt hi;rw[hx]at hn3
    have hij:i+1<=j:=by
     unfold gW at q3;obtain⟨_,i1,q4,q3⟩:=PR.got q3;have a1:=bV (by simp) q4;have a2:=(gX h.fit (f+1)).2.2.2.2.1 _ _ _ q3;omega
    obtain⟨W,hW,hXW,HZ⟩:=lG (r:=r) h (by rw[<-hc,q3];rfl) (o02.trans o3) h3.ps (hb2.only o3 hK) hn3 hG ((aJ.app h.tb (aJ.text h.tb i) (fun b q=>Nat.lt_of_lt_of_le (h.tb.lt i b q) (by omega)) (by omega) fG (Nat.le_refl _) (Nat.le_succ _) hij).up fun b q=>by
     rcases List.mem_append.1 q with q|q
     ·exact .inr (h.tb.lt i b q)
     ·rcases fG.whr b q with q|⟨k,_,_,q⟩
      ·exact .inl (by omega)
      ·exact .inr (h.tb.lt k b q))
    obtain⟨⟨⟨x0,f0⟩,⟨x1,f1⟩,⟨x2,f2⟩,⟨x3,f3⟩,⟨x4,f4⟩,⟨x5,f5⟩⟩,xl⟩:=(hb2.only o3 hK).six;obtain⟨⟨⟨e0,_⟩,⟨e1,_⟩,⟨e2,_⟩,⟨e3,_⟩,⟨e4,_⟩,⟨e5,_⟩⟩,_⟩:=hXW.six
    generalize PcP E TX TB en S K tv sv fv w r (jl TB w.heap.size i)=Q at *
    clear HNo H hG fG hn3 hXW hc q3
    generalize (E.txt i).length=xn at *
    generalize ks.length=kn at *
    go_wp2_with fail
    rw[<-hW.out];exact bodyPost_ret (v:=.agg #[.int .i64 6,.int .i64 0,.int .i64 0,.int .i64 0,.slice xa xn xc,.slice a kn c]) (by simp[results,Tryz.results158,go_sem,e0,e1,e2,e3,e4,e5]) rfl HZ.out
  ·rw[decide_eq_false q2];have hn3:=h2.ps.nameAt hi;rw[hx]at hn3;obtain⟨W,hW,hXW,HZ⟩:=lG h (hr.symm.trans (Oo h.nm q1 q2)) o02 h2.ps hb2 hn3 (by rw[Ex.ah];exact jE _ _) (by rw[List.append_nil];exact (aJ.text (h.tb.mono (Nat.le_succ _)) i));obtain⟨⟨⟨x0,f0⟩,⟨x1,f1⟩,⟨x2,f2⟩,⟨x3,f3⟩,⟨x4,f4⟩,⟨x5,f5⟩⟩,xl⟩:=hb2.six;obtain⟨⟨⟨e0,_⟩,⟨e1,_⟩,⟨e2,_⟩,⟨e3,_⟩,⟨e4,_⟩,⟨e5,_⟩⟩,_⟩:=hXW.six
   generalize PcP E TX TB en S K tv sv fv w r (jl TB w.heap.size i)=Q at *
   clear HNo H hn3 hXW hr
   generalize (E.txt i).length=xn at *
   go_wp2_with fail
   rw[<-hW.out];exact bodyPost_ret (v:=.agg #[.int .i64 3,.int .i64 0,.int .i64 0,.int .i64 0,.slice xa xn xc,.slice none 0 0]) (by simp[results,Tryz.results158,go_sem,e0,e1,e2,e3,e4,e5]) rfl HZ.out
 ·refine (ww ha q1).mono ?_;rintro e w1 ⟨rfl,o1⟩;have HZ:=HNo.out _ w1 (hr.symm.trans (Rw h.nm q1)) (oa.trans o1);go_wp2_with fail
  exact⟨rfl,HZ⟩
end Go.Proofs.YtgaddpkkjebekaaGreatDoor
