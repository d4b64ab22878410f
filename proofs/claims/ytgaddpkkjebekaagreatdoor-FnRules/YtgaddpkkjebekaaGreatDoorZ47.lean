import Derived.Test.YtgaddpkkjebekaaGreatDoorZ46
import Derived.BigQuiet
set_option maxHeartbeats 100000000
set_option maxRecDepth 100000
namespace Go.Proofs.YtgaddpkkjebekaaGreatDoor
open Go.RowKit Go.Maps
theorem Ib {E:ak}{TX:Nat->Value}{TB:Nat->List Nat}{en:Int}{S:List Sc}{K:Nat}{tv sv fv:Value}{w:World}{i:Nat}(h:Pz E TX TB en S K tv sv fv w i) {x:Pa}{j:Nat}(q:dR E i=.ok (x,j)):Calls Tryz.prog 43 #[.pointer (some ⟨K,0,none⟩)] w fun e w'=>∃ xa xn xc,e=.returned (.agg #[.slice xa xn xc,.int .i64 x.tk,.int .i64 x.tn])/\af K w w'/\Pz E TX TB en S K tv sv fv w' j/\ai w' x.dat [.slice xa xn xc,.int .i64 x.tk,.int .i64 x.tn] (TB i)/\aJ TB w.heap.size i j (TB i) :=
 (yH E TX TB en S K tv sv fv w i h.ps h.fit h.nm).mono fun _ w' r=>by
  obtain⟨v,e1,p,e2⟩:=r.well x j q;have hadv:=iR h.fit q;have hn:=(h.go r.only p).ps.nameAt (k:=i) (by omega)
  have hx:x.name=E.txt i:=by
   unfold dR at q;obtain⟨a,i1,q1,q⟩:=PR.got q;obtain⟨t,i2,q2,q⟩:=PR.got q
   cases q
   unfold eX at q1;split at q1
   ·cases q1;rfl
   ·cases q1
  obtain⟨xa,xc,hx2⟩:=jb hn;rw[hx2]at hn;refine⟨xa,_,xc,by rw[e1,e2,hx2],r.only,h.go r.only p,Pa.own (by rw[hx];exact hn),(aJ.text h.tb i).mono (Nat.le_refl _) (Nat.le_refl _) (by omega)⟩
theorem Om {E:ak}{TX:Nat->Value}{TB:Nat->List Nat}{en:Int}{S:List Sc}{K:Nat}{tv sv fv:Value}{w:World}{i:Nat}(h:Pz E TX TB en S K tv sv fv w i) {k:Nat}(q:dR E i=.error k):Calls Tryz.prog 43 #[.pointer (some ⟨K,0,none⟩)] w fun e w'=>e=.panicked [{ v:=.iface 36 (.int .i64 (E.pos en k)),recovered:=false }]/\af K w w':=kT (yH E TX TB en S K tv sv fv w i h.ps h.fit h.nm) q
theorem UJ {E:ak}{f i:Nat}(q:E.txt i≠[40]):dA E f i=.error i:=by unfold dA aG;rw[if_neg q];rfl
theorem RD {E:ak}{f i:Nat}(q:E.txt i=[40]) (q2:E.txt (i+1)=[41]):dA E f i=.ok ([],i+1+1):=by unfold dA aG;rw[if_pos q];show (if E.txt (i+1)=[41] then _ else _)=_;rw[if_pos q2]
theorem UK {E:ak}{f i:Nat}(q:E.txt i=[40]) (q2:E.txt (i+1)≠[41]):dA E f i=PR.andThen (dR E (i+1)) fun k i=>jy E f [k] i:=by unfold dA aG;rw[if_pos q];show (if E.txt (i+1)=[41] then _ else _)=_;rw[if_neg q2]
theorem LV {E:ak}{g j:Nat}{ks:List Pa}(q:E.txt j=[41]):jy E (g+1) ks j=.ok (ks,j+1):=by rw[jy,if_pos q]
theorem Oy {E:ak}{g j:Nat}{ks:List Pa}(q:E.txt j≠[41]) (q2:E.txt j≠[44]):jy E (g+1) ks j=.error j:=by rw[jy,if_neg q];unfold aG;rw[if_neg q2];rfl
theorem Oz {E:ak}{g j:Nat}{ks:List Pa}(q:E.txt j≠[41]) (q2:E.txt j=[44]):jy E (g+1) ks j=PR.andThen (dR E (j+1)) fun k i=>jy E g (ks++[k]) i:=by rw[jy,if_neg q];unfold aG;rw[if_pos q2];rfl
theorem Pa.jU (l:List Pa):Pa.ah l=l.map Pa.dat:=by induction l with|nil=>rw[Pa.ah];rfl|cons x r ih=>rw[Pa.ah,ih];rfl
theorem Pa.gq (ks:List Pa) (x:Pa):Pa.ah (ks++[x])=Pa.ah ks++[x.dat]:=by rw[Pa.jU,Pa.jU,List.map_append];rfl
theorem yI {f:Nat}(E:ak) (TX:Nat->Value) (TB:Nat->List Nat) (en:Int) (S:List Sc) (K:Nat) (tv sv fv:Value) (w:World) (i:Nat) (h:Pz E TX TB en S K tv sv fv w i) (hf:4*(E.l.length - i)<=f):Calls Tryz.prog 45 #[.pointer (some ⟨K,0,none⟩),.func (.func 43) #[.pointer (some ⟨K,0,none⟩)] #[]] w (PcP E TX TB en S K tv sv fv w (dA E f i) (pV Pa.ah 3 TB w.heap.size i)):=by
 have HNo:Hid (∀ k w',dA E f i=.error k->af K w w'->PcP E TX TB en S K tv sv fv w (dA E f i) (pV Pa.ah 3 TB w.heap.size i) (.panicked [{ v:=.iface 36 (.int .i64 (E.pos en k)),recovered:=false }]) w'):=fun k w' e o=>PcP.no e o;have HY:Hid (∀ ks j w' a n c F,dA E f i=.ok (ks,j)->af K w w'->Ps E TX TB en S K tv sv fv w' j->n=ks.length->ai w' (.list 3 (Pa.ah ks)) [.slice a n c] F->aJ TB w.heap.size i j F->ks.length<=6000->PcP E TX TB en S K tv sv fv w (dA E f i) (pV Pa.ah 3 TB w.heap.size i) (.returned (.slice a n c)) w'):=fun ks j w' a n c F e o p hn q r l=>by subst hn;exact PcP.yes e o p ⟨a,c,F,rfl,q,r,l⟩
 generalize PcP E TX TB en S K tv sv fv w (dA E f i) (pV Pa.ah 3 TB w.heap.size i)=Q at *
 obtain⟨i0,hi,hz0,hz1,hz2⟩:=info_parts Tryz.IR;have hKl:=h.ps.box.lt;have hfew:=(h.ps.tks w (af.refl _ _)).few;go_enter Tryz.func45,Tryz.ntmps45;go_wp2_with fail
 by_cases q1:E.txt i=[40]
 ·have hil:=ak.aX (E:=E) (i:=i) (by rw[q1];decide);refine (df h.ps _ _ oO (by decide) q1).mono ?_;rintro e w1 ⟨rfl,o1,p1⟩;go_wp2_with fail
  by_cases q2:E.txt (i+1)=[41]
  ·refine (bG p1 _ _ ku (by decide) q2).mono ?_;rintro e w2 ⟨rfl,o2,p2⟩;have HZ:=HY.out [] _ w2 none 0 0 [] (RD q1 q2) (o1.trans o2) p2 rfl (jE _ _) (aJ.nil _ _ _ _) (Nat.zero_le _);go_wp2_with fail
   exact HZ
  ·refine (bT p1 _ _ ku (by decide) q2).mono ?_;rintro e w2 ⟨rfl,o2,p2⟩;have h2:=h.go (o1.trans o2) p2;have hin:=UK (f:=f) q1 q2;go_wp2_with fail
   cases q3:dR E (i+1) with
   | error k =>
    refine (Om h2 q3).mono ?_;rintro e w3 ⟨rfl,o3⟩;have HZ:=HNo.out _ w3 (by rw[hin,q3];rfl) ((o1.trans o2).trans o3);go_wp2_with fail
    exact⟨rfl,HZ⟩
   | ok y =>
    obtain⟨x,j⟩:=y;refine (Ib h2 q3).mono ?_;rintro e w3 ⟨xa,xn,xc,rfl,o3,h3,ho,fp⟩;obtain⟨F,hF⟩:=hidx (TB (i+1));rw[<-hF.out]at ho fp;have hadv:=iR h.fit q3;have hin2:dA E f i=jy E f [x] j:=by rw[hin,q3];rfl
    have o13:=(o1.trans o2).trans o3;obtain⟨wa,hwa⟩:=hidx (w3.alloc (.cells #[.slice xa xn xc,.int .i64 x.tk,.int .i64 x.tn] 75));have la:Later w3 wa:=by rw[hwa.out];exact ae _ _
    have oa:af K w wa:=o13.trans (af.of_later la);have ha:=h3.later la;have hBa:Bp TB w.heap.size i j wa 75 3 (.slice (some ⟨w3.heap.size,0,none⟩) 1 1) (Pa.ah [x]) [.slice xa xn xc,.int .i64 x.tk,.int .i64 x.tn] F:=by rw[hwa.out,Pa.ah,Pa.ah];exact Bp.one rfl o13.size ho (fp.mono (o1.trans o2).size (Nat.le_succ _) (Nat.le_refl _))
    have HA:Hid (dA E f i=jy E f [x] j/\f<=f/\4*(E.l.length - j)+3<=f/\[x].length<=j/\i<=j):=⟨hin2,Nat.le_refl _,by omega,by simp;omega,by omega⟩
    clear hin hin2 ho fp h2 p2 p1;go_wp2_with fail
    rw[<-hwa.out];go_loopw [5] (fun r wr=>∃ (g j:Nat) (ks:List Pa) (xs:List Value) (F:List Nat) (rv:Value),rv=r/\Pz E TX TB en S K tv sv fv wr j/\af K w wr/\Bp TB w.heap.size i j wr 75 3 rv (Pa.ah ks) xs F/\Hid (dA E f i=jy E g ks j/\g<=f/\4*(E.l.length - j)+3<=g/\ks.length<=j/\i<=j)) (fun _ wr=>E.l.length - nxt K wr)
    case atStart=>exact⟨f,j,[x],_,F,_,rfl,ha,oa,hBa,HA⟩
    case round =>
     clear ha oa hBa HA q3 hadv la hwa h3;obtain⟨g,j',ks,xs,F',rv,rfl,hR,oR,hB,HR⟩:=hrel
     obtain⟨g,rfl⟩:∃ g',g=g'+1:=⟨g - 1,by have:=HR.out;omega⟩
     have hrow:=hB.row;obtain⟨n,hn⟩:=hidx (Pa.ah ks).length;rw[<-hn.out]at hrow;have hnk:n=ks.length:=by rw[hn.out,Pa.az]
     have hHR:=HR.out;have hjl:=hR.ps.le;obtain⟨ra,rc,rfl⟩:=aP hrow;have hlt:=hrow.lt;have hn6:n<=6000:=by omega
     have HG:Hid _:=hnk
     have HE:Hid (dA E f i=jy E (g+1) ks j'/\g+1<=f/\4*(E.l.length - j')+3<=g+1):=⟨hHR.1,hHR.2.1,hHR.2.2.1⟩
     have HKj:Hid (ks.length<=j'):=hHR.2.2.2.1;have hij:=hHR.2.2.2.2;clear HR hHR hnk;go_wp2_with fail
     by_cases q4:E.txt j'=[41]
     ·refine (bG hR.ps _ _ ku (by decide) q4).mono ?_;rintro e w4 ⟨rfl,o4,p4⟩;obtain⟨G,hG1,hG2⟩:=(hB.only o4 hKl h.kt).done (by rw[Pa.az];have:=HG.out;omega);have HZ:=HY.out ks (j'+1) w4 ra n rc G (by rw[HE.out.1];exact LV q4) (oR.trans o4) p4 HG.out hG1 (hG2.mono (Nat.le_refl _) (Nat.le_refl _) (Nat.le_succ _)) (by have:=HG.out;omega);go_wp2_with fail
      exact HZ
     ·refine (bT hR.ps _ _ ku (by decide) q4).mono ?_;rintro e w4 ⟨rfl,o4,p4⟩;go_wp2_with fail
      by_cases q5:E.txt j'=[44]
      ·have hjl2:=ak.aX (E:=E) (i:=j') (by rw[q5];decide);refine (df p4 _ _ sQ (by decide) q5).mono ?_;rintro e w5 ⟨rfl,o5,p5⟩;have h5:=hR.go (o4.trans o5) p5;have hin:=HE.out.1.trans (Oz q4 q5);have hfu:4*(E.l.length - (j'+1))+3<=g:=by have:=HE.out.2;omega
       have hgf:g<=f:=by have:=HE.out.2;omega
       go_wp2_with fail
       cases q6:dR E (j'+1) with
       | error k =>
        refine (Om h5 q6).mono ?_;rintro e w6 ⟨rfl,o6⟩;have HZ:=HNo.out _ w6 (by rw[hin,q6];rfl) (oR.trans ((o4.trans o5).trans o6));go_wp2_with fail
        exact⟨rfl,HZ⟩
       | ok y =>
        obtain⟨x2,j2⟩:=y;refine (Ib h5 q6).mono ?_;rintro e w6 ⟨xa,xn,xc,rfl,o6,h6,ho6,fp6⟩;obtain⟨G,hG⟩:=hidx (TB (j'+1));rw[<-hG.out]at ho6 fp6;have hadv:=iR h.fit q6;have oo:=(o4.trans o5).trans o6
        have hin2:Hid (dA E f i=jy E g (ks++[x2]) j2/\g<=f/\4*(E.l.length - j2)+3<=g/\(ks++[x2]).length<=j2/\i<=j2):=⟨by rw[hin,q6];rfl,hgf,by omega,by have:=HKj.out;simp;omega,by omega⟩
        have HPU:Hid (∀ w' v',w'.ownsRow w.heap.size 75 3 v' (n+1) (xs++[.slice xa xn xc,.int .i64 x2.tk,.int .i64 x2.tn])->∀ wz,Later w6 wz->wz.grownBy w' (Value.slice ra n rc).ownBlock->(v'.ownBlock=(Value.slice ra n rc).ownBlock\/v'.ownBlock=some wz.heap.size)->af K w w'/\Pz E TX TB en S K tv sv fv w' j2/\Bp TB w.heap.size i j2 w' 75 3 v' (Pa.ah (ks++[x2])) (xs++[.slice xa xn xc,.int .i64 x2.tk,.int .i64 x2.tn]) (F'++G)):=fun w' v' ho wz lz hg hloc=>by
         have oK:=kK oR oo lz hg hlt rfl;have hbz:=h6.ps.box.later lz;refine⟨oK,h.adv oK (hbz.kept hg.size (hg.block K hbz.lt fun e=>by have:=(hlt K e.symm).1;omega)) h6.ps.le,?_⟩;rw[Pa.gq];exact hB.push h.tb rfl oo hKl h.kt oR.size ho6 (fp6.mono (o4.trans o5).size (Nat.le_refl _) (Nat.le_refl _)) lz (Nat.le_succ _) (by omega) (by omega) (by rw[<-hn.out];exact ho) hg hloc
        have hrA:w6.ownsRow w.heap.size 75 3 (.slice ra n rc) n xs:=cu hrow (iq oo hKl);have bA:w.heap.size<=w6.heap.size:=(oR.trans oo).size
        have HM:Hid (nxt K wr=j'/\j'<j2/\j2<=E.l.length):=⟨hR.ps.nxt,by omega,h6.ps.le⟩
        clear hB hin q6 ho6 fp6 h5 p5 p4 HE HKj hadv HY HNo q5 q4 o6 o5 o4 hfu hgf hR;go_wp2_with (at_builtin;refine wpList_append_own_at _ rfl _ _ 50 rfl w.heap.size 75 i0 (.agg #[.slice none 0 0,.int .i64 0,.int .i64 0]) 3 40 Tryz.underlying50 hi hz0 hz1 hz2 rfl (by decide) _ _ _ rfl (hrA.alloc _) _ 1 1 [.slice xa xn xc,.int .i64 x2.tk,.int .i64 x2.tn] rfl rfl (fA _ _ _ (by simp)) (by simp[Value.oneCell']) (by unfold maxLen;omega) (by omega) (Nat.le_trans bA (ae _ _).size) ?_;intro v9 w9 o9 g9 _ h9;obtain⟨L9,P9,B9⟩:=HPU.out _ _ o9 _ (ae _ _) g9 h9;obtain⟨a9,p9,hv9⟩:=aP o9;rw[hv9]at B9 o9 ⊢)
        go_roundw
        case rel=>exact⟨g,j2,ks++[x2],_,_,_,rfl,P9,L9,B9,hin2⟩
        case measure =>
         rw[P9.ps.nxt,HM.out.1];have:=HM.out;omega
      ·refine (dN p4 _ _ sQ (by decide) q5).mono ?_;rintro e w5 ⟨rfl,o5⟩;have HZ:=HNo.out _ w5 (by rw[HE.out.1];exact Oy q4 q5) (oR.trans (o4.trans o5));go_wp2_with fail
       exact⟨rfl,HZ⟩
 ·refine (dN h.ps _ _ oO (by decide) q1).mono ?_;rintro e w1 ⟨rfl,o1⟩;have HZ:=HNo.out _ w1 (UJ q1) o1;go_wp2_with fail
  exact⟨rfl,HZ⟩
def P6 (TB:Nat->List Nat) (B i:Nat) (x:Fu) (j:Nat) (v:Value) (w:World):Prop:=∃ u0 u1 u2 F,v=.agg #[u0,u1,.int .i64 x.rk,.int .i64 x.rn,u2]/\ai w x.dat [u0,u1,.int .i64 x.rk,.int .i64 x.rn,u2] F/\aJ TB B i j F
theorem Bxx.five {w:World}{B:Nat}{a b c d e:Value}(h:Bxx w B [a,b,c,d,e]):((w.cell? ⟨B,0,none⟩=some a/\w.frozen? ⟨B,0,none⟩=false)/\(w.cell? ⟨B,1,none⟩=some b/\w.frozen? ⟨B,1,none⟩=false)/\(w.cell? ⟨B,2,none⟩=some c/\w.frozen? ⟨B,2,none⟩=false)/\(w.cell? ⟨B,3,none⟩=some d/\w.frozen? ⟨B,3,none⟩=false)/\(w.cell? ⟨B,4,none⟩=some e/\w.frozen? ⟨B,4,none⟩=false))/\B<w.heap.size :=
 ⟨⟨h.cell 0 _ rfl,h.cell 1 _ rfl,h.cell 2 _ rfl,h.cell 3 _ rfl,h.cell 4 _ rfl⟩,h.lt⟩
theorem set5 {w3:World}{B:Nat}{c0 c1 c2 c3 c4:Value}(hb:Bxx w3 B [c0,c1,c2,c3,c4]) (a b c d e:Value):∃ W,Hid (W=(((((w3).setCell ⟨B,0,none⟩ (a)).setCell ⟨B,1,none⟩ (b)).setCell ⟨B,2,none⟩ (c)).setCell ⟨B,3,none⟩ (d)).setCell ⟨B,4,none⟩ (e))/\af B w3 W/\Bxx W B [a,b,c,d,e]/\W.heap.size=w3.heap.size :=
 ⟨_,rfl,(((((af.refl _ w3).set 0 _).set 1 _).set 2 _).set 3 _).set 4 _,((((hb.set 0 _ (by simp)).set 1 _ (by simp)).set 2 _ (by simp)).set 3 _ (by simp)).set 4 _ (by simp),by simp[World.size_setCell]⟩
theorem P5 {E:ak}{TX:Nat->Value}{TB:Nat->List Nat}{en:Int}{S:List Sc}{K:Nat}{tv sv fv:Value}{w:World}{i:Nat}(h:Pz E TX TB en S K tv sv fv w i) {w4:World}{r:PR Fu}{nm:List Int}{ps:List Pa}{rk rn:Int}{bs:List St}{j:Nat}{u0 u1 u2:Value}{F0 F1 F2:List Nat}{c0 c1 c2 c3 c4:Value}(hr:r=.ok (.mk nm ps rk rn bs,j)) (o:af K w w4) (p:Ps E TX TB en S K tv sv fv w4 j) (hb:Bxx w4 w.heap.size [c0,c1,c2,c3,c4]) (h0:ai w4 (.bytes nm) [u0] F0) (h1:ai w4 (.list 3 (Pa.ah ps)) [u1] F1) (h2:ai w4 (.list 8 (St.ah bs)) [u2] F2) (fp:aJ TB (w.heap.size+1) i j (F0++(F1++F2))) :
  ∃ W,Hid (W=(((((w4).setCell ⟨w.heap.size,0,none⟩ (u0)).setCell ⟨w.heap.size,1,none⟩ (u1)).setCell ⟨w.heap.size,2,none⟩ (.int .i64 rk)).setCell ⟨w.heap.size,3,none⟩ (.int .i64 rn)).setCell ⟨w.heap.size,4,none⟩ (u2))/\Bxx W w.heap.size [u0,u1,.int .i64 rk,.int .i64 rn,u2]/\Hid (PcP E TX TB en S K tv sv fv w r (P6 TB w.heap.size i) (.returned (.agg #[u0,u1,.int .i64 rk,.int .i64 rn,u2])) W):=by
 obtain⟨W,hW,oR,bW,sW⟩:=set5 hb u0 u1 (.int .i64 rk) (.int .i64 rn) u2;have hK:K≠w.heap.size:=by have:=h.ps.box.lt;omega
 have oK:=Ad o oR;exact⟨W,hW,bW,PcP.yes hr oK (h.ps.move oK (p.box.only oR hK) p.le) ⟨_,_,_,_,rfl,aI (Fu.own (x:=Fu.mk nm ps rk rn bs) h0 h1 h2) oR (fp.notR h.tb),fp.mono (Nat.le_succ _) (Nat.le_refl _) (Nat.le_refl _)⟩⟩
theorem UG {f:Nat}{E:ak}{TX:Nat->Value}{TB:Nat->List Nat}{en:Int}{S:List Sc}{K:Nat}{tv sv fv:Value}{w:World}{i:Nat}(h:Pz E TX TB en S K tv sv fv w i) (hf:4*(E.l.length - i)<=f) {x:List Pa}{j:Nat}(q:dA E f i=.ok (x,j)):Calls Tryz.prog 45 #[.pointer (some ⟨K,0,none⟩),.func (.func 43) #[.pointer (some ⟨K,0,none⟩)] #[]] w fun e w'=>∃ a n c F,e=.returned (.slice a n c)/\af K w w'/\Pz E TX TB en S K tv sv fv w' j/\ai w' (.list 3 (Pa.ah x)) [.slice a n c] F/\aJ TB w.heap.size i j F :=
 (yI E TX TB en S K tv sv fv w i h hf).mono fun _ _ r=>by
  obtain⟨v,e1,p,a,c,F,e2,o,fp,_⟩:=r.well x j q;exact⟨a,_,c,F,by rw[e1,e2],r.only,h.go r.only p,o,fp⟩
theorem IK {f:Nat}(E:ak) (TX:Nat->Value) (TB:Nat->List Nat) (en:Int) (S:List Sc) (K:Nat) (tv sv fv:Value) (w:World) (i:Nat) (h:Pz E TX TB en S K tv sv fv w i) (hf:4*(E.l.length - i)+3<=f):Calls Tryz.prog 18 #[.pointer (some ⟨K,0,none⟩)] w (PcP E TX TB en S K tv sv fv w (lU E f i) (P6 TB w.heap.size i)):=by
 have HNo:Hid (∀ k w',lU E f i=.error k->af K w w'->PcP E TX TB en S K tv sv fv w (lU E f i) (P6 TB w.heap.size i) (.panicked [{ v:=.iface 36 (.int .i64 (E.pos en k)),recovered:=false }]) w'):=fun k w' e o=>PcP.no e o
 generalize hr:lU E f i=r at *
 have HR:Hid (lU E f i=r):=hr;clear hr;obtain⟨wa,hwa⟩:=hidx (w.alloc (.cells #[.slice none 0 0,.slice none 0 0,.int .i64 0,.int .i64 0,.slice none 0 0] 55));have la:Later w wa:=by rw[hwa.out];exact ae _ _
 have ha:=h.later la;have hbx:Bxx wa w.heap.size [.slice none 0 0,.slice none 0 0,.int .i64 0,.int .i64 0,.slice none 0 0]:=by rw[hwa.out];exact Bxx.new _ _ _
 have hs:=hbx.lt;have oa:af K w wa:=af.of_later la;have hKl:=h.ps.box.lt;have hK:w.heap.size≠K:=by omega
 go_enter Tryz.func18,Tryz.ntmps18;go_wp2_with fail
 rw[<-hwa.out];by_cases q1:aQ (E.txt i)=true
 ·have hi:=ak.aX (E:=E) (i:=i) (fun e=>by rw[e]at q1;revert q1;decide);refine (sK ha q1).mono ?_;rintro e w1 ⟨rfl,o1,h1⟩;obtain⟨xa,xc,hx⟩:=jb (h1.ps.nameAt hi);have hr2:(PR.andThen (dA E f (i+1)) fun ps i2=>PR.andThen (LU E i2) fun t i3=>PR.andThen (pB E f i3) fun b i4=>.ok (Fu.mk (E.txt i) ps t.1 t.2 b,i4))=r:=by rw[<-HR.out];unfold lU;rw[nz h.nm q1];rfl
  rw[hx];have HX:Hid _:=hx;clear hx;obtain⟨xn,hxn⟩:=hidx (E.txt i).length;rw[<-hxn.out]at HX ⊢;obtain⟨wb,hwb⟩:=hidx (w1.alloc (.cells #[.slice xa xn xc,.slice none 0 0,.int .i64 0,.int .i64 0,.slice none 0 0] 55));have lb:Later w1 wb:=by rw[hwb.out];exact ae _ _
  have hbs:Bxx wb w1.heap.size [.slice xa xn xc,.slice none 0 0,.int .i64 0,.int .i64 0,.slice none 0 0]:=by rw[hwb.out];exact Bxx.new _ _ _
  have hb:=h1.later lb;have ob:=(oa.trans o1).trans (af.of_later lb);have bb:=(hbx.only o1 hK).later lb;have s1:=o1.size;have hK1:w1.heap.size≠K:=by omega
  have hRs:w.heap.size≠w1.heap.size:=by omega
  have sb:=hbs.lt;have hBT:∀ k,w1.heap.size∉TB k:=fun k q=>by have:=h.tb.lt k _ q;omega
  clear HR;go_wp2_with fail
  rw[<-hwb.out]
  cases q2:dA E f (i+1) with
  | error k =>
   refine (kT (yI (f:=f) E TX TB en S K tv sv fv wb (i+1) hb (by omega)) q2).mono ?_;rintro e w2 ⟨rfl,o9⟩;have HZ:=HNo.out _ w2 (by rw[<-hr2,q2];rfl) (ob.trans o9);go_wp2_with fail
   exact⟨rfl,HZ⟩
  | ok y =>
   obtain⟨ps,j⟩:=y;have hadv:=yE h.fit q2;refine (UG hb (by omega) q2).mono ?_;rintro e w2 ⟨pa,pn,pc,G,rfl,o2,h2,hG,fG⟩;have hr3:(PR.andThen (LU E j) fun t i3=>PR.andThen (pB E f i3) fun b i4=>.ok (Fu.mk (E.txt i) ps t.1 t.2 b,i4))=r:=by rw[<-hr2,q2];rfl
   have hbs2:=hbs.only o2 hK1;obtain⟨⟨⟨x0,f0⟩,⟨x1,f1⟩,⟨x2,f2⟩,⟨x3,f3⟩,⟨x4,f4⟩⟩,xl⟩:=hbs2.five;have s2:=o2.size;have hBG:w1.heap.size∉G:=fG.iy (by omega) hBT;have hKG:K∉G:=fG.iy (by omega) h.kt;have hlG:=ai.lt _ hG;obtain⟨wc,hwc⟩:=hidx (w2.setCell ⟨w1.heap.size,1,none⟩ (.slice pa pn pc));have oc0:af w1.heap.size w2 wc:=by rw[hwc.out];exact (af.refl _ w2).set 1 _
   have hbs3:Bxx wc w1.heap.size [.slice xa xn xc,.slice pa pn pc,.int .i64 0,.int .i64 0,.slice none 0 0]:=by rw[hwc.out];exact hbs2.set 1 _ (by simp)
   have oc:af K w wc:=by rw[hwc.out];exact (ob.trans o2).iG (by omega) 1 _
   have hc:Pz E TX TB en S K tv sv fv wc j:=h.adv oc (h2.ps.box.only oc0 (Ne.symm hK1)) h2.ps.le;have bc:=(bb.only o2 hK).only oc0 hRs;have hG3:=aI hG oc0 hBG;have s3:=oc0.size;have fG1:aJ TB (w.heap.size+1) i j (TB i++G):=aJ.app (h.tb.mono (Nat.le_succ _)) (aJ.text (h.tb.mono (Nat.le_succ _)) i) (fun b q=>Nat.lt_of_lt_of_le (h.tb.lt i b q) (by omega)) (by omega) fG (Nat.le_refl _) (by omega) (by omega)
   have hlA:∀ b∈TB i++G,b<w2.heap.size:=fun b q=>by
    rcases List.mem_append.1 q with q|q
    ·have:=h.tb.lt i b q;omega
    ·exact hlG b q
   clear hr2 q2 hG;go_wp2_with fail
   rw[<-hwc.out];clear x0 f0 x1 f1 x2 f2 x3 f3 x4 f4 xl;refine (nT E TX TB en S K tv sv fv wc j hc.ps _ _ Ak).mono ?_;rintro e w3 ⟨rfl,l3⟩;have h3:=hc.later l3;have o3:=oc.trans (af.of_later l3);have b3:=bc.later l3;have hbs4:=hbs3.later l3;have hG4:=fE hG3 l3;have s4:=l3.size;by_cases q3:E.txt j=[123]
   ·rw[decide_eq_true q3];have hr4:(PR.andThen (pB E f j) fun b i4=>.ok (Fu.mk (E.txt i) ps 0 0 b,i4))=r:=by rw[<-hr3];unfold LU;rw[if_pos q3];rfl
    clear hr3;go_wp2_with fail
    cases q8:pB E f j with
    | error k =>
     refine (GR (zh f).2 h3 (by omega) q8).mono ?_;rintro e w8 ⟨rfl,o9⟩;have HZ:=HNo.out _ w8 (by rw[<-hr4,q8];rfl) (o3.trans o9);go_wp2_with fail
     exact⟨rfl,HZ⟩
    | ok y =>
     obtain⟨b,j8⟩:=y;have hadv8:=(uZ h.fit f).2.1 _ _ _ q8;refine (BC (zh f).2 h3 (by omega) q8).mono ?_;rintro e w8 ⟨ba,bn,bc_,D,rfl,o8,h8,hD,fD⟩;have s8:=o8.size;have hbs8:=hbs4.only o8 hK1;have hG8:=aI hG4 o8 hKG;have hBD:w1.heap.size∉D:=fD.iy (by omega) hBT;obtain⟨wd,hwd⟩:=hidx (w8.setCell ⟨w1.heap.size,4,none⟩ (.slice ba bn bc_));have od0:af w1.heap.size w8 wd:=by rw[hwd.out];exact (af.refl _ w8).set 4 _
     have hbs9:Bxx wd w1.heap.size [.slice xa xn xc,.slice pa pn pc,.int .i64 0,.int .i64 0,.slice ba bn bc_]:=by rw[hwd.out];exact hbs8.set 4 _ (by simp)
     have od:af K w wd:=by rw[hwd.out];exact (o3.trans o8).iG (by omega) 4 _
     have hd:Pz E TX TB en S K tv sv fv wd j8:=h.adv od (h8.ps.box.only od0 (Ne.symm hK1)) h8.ps.le;have b9:=(b3.only o8 hK).only od0 hRs;have fa:aJ TB (w.heap.size+1) i j8 ((TB i++G)++D):=aJ.app (h.tb.mono (Nat.le_succ _)) fG1 (fun b q=>Nat.lt_of_lt_of_le (hlA b q) (by omega)) (by omega) fD (by omega) (by omega) (by omega);have hn:=hd.ps.nameAt hi;rw[HX.out]at hn;obtain⟨⟨⟨x0,f0⟩,⟨x1,f1⟩,⟨x2,f2⟩,⟨x3,f3⟩,⟨x4,f4⟩⟩,xl⟩:=hbs8.five;obtain⟨W,hW,hXW,HZ⟩:=P5 (r:=r) (j:=j8) (nm:=E.txt i) (ps:=ps) (rk:=0) (rn:=0) (bs:=b) h (by rw[<-hr4,q8];rfl) od hd.ps b9 hn (aI hG8 od0 hBG) (aI hD od0 hBD) (by rw[<-List.append_assoc];exact fa);clear hr4 q8 hD hG8 hn;go_upto_region 6 with fail
     rw[<-hwd.out];clear x0 f0 x1 f1 x2 f2 x3 f3 x4 f4 xl;obtain⟨⟨⟨z0,y0⟩,⟨z1,y1⟩,⟨z2,y2⟩,⟨z3,y3⟩,⟨z4,y4⟩⟩,zl⟩:=hbs9.five;obtain⟨⟨⟨x0,f0⟩,⟨x1,f1⟩,⟨x2,f2⟩,⟨x3,f3⟩,⟨x4,f4⟩⟩,xl⟩:=b9.five;obtain⟨⟨⟨e0,_⟩,⟨e1,_⟩,⟨e2,_⟩,⟨e3,_⟩,⟨e4,_⟩⟩,_⟩:=hXW.five
     generalize PcP E TX TB en S K tv sv fv w r (P6 TB w.heap.size i)=Q at *
     clear HNo hXW HX hxn;go_wp2_with fail
     rw[<-hW.out];exact bodyPost_ret (v:=.agg #[.slice xa xn xc,.slice pa pn pc,.int .i64 0,.int .i64 0,.slice ba bn bc_]) (by simp[results,Tryz.results18,go_sem,e0,e1,e2,e3,e4]) rfl HZ.out
   ·rw[decide_eq_false q3];have hr4:(PR.andThen (pTy E j) fun t i3=>PR.andThen (pB E f i3) fun b i4=>.ok (Fu.mk (E.txt i) ps t.1 t.2 b,i4))=r:=by rw[<-hr3];unfold LU;rw[if_neg q3]
    clear hr3;go_wp2_with fail
    cases q4:pTy E j with
    | error k =>
     refine (NI h3.ps h.fit q4).mono ?_;rintro e w5 ⟨rfl,o9⟩;have HZ:=HNo.out _ w5 (by rw[<-hr4,q4];rfl) (o3.trans o9);go_wp2_with fail
     exact⟨rfl,HZ⟩
    | ok y =>
     obtain⟨⟨t1,t2⟩,j5⟩:=y;have hadv5:=wG h.fit q4;refine (Hq h3.ps h.fit q4).mono ?_;rintro e w5 ⟨rfl,o5,p5⟩;have hbs5:=hbs4.only o5 hK1;obtain⟨⟨⟨x0,f0⟩,⟨x1,f1⟩,⟨x2,f2⟩,⟨x3,f3⟩,⟨x4,f4⟩⟩,xl⟩:=hbs5.five;have s5:=o5.size;have hr5:(PR.andThen (pB E f j5) fun b i4=>.ok (Fu.mk (E.txt i) ps t1 t2 b,i4))=r:=by rw[<-hr4,q4];rfl
     obtain⟨we,hwe⟩:=hidx ((w5.setCell ⟨w1.heap.size,2,none⟩ (.int .i64 t1)).setCell ⟨w1.heap.size,3,none⟩ (.int .i64 t2));have oe0:af w1.heap.size w5 we:=by rw[hwe.out];exact ((af.refl _ w5).set 2 _).set 3 _
     have hbs6:Bxx we w1.heap.size [.slice xa xn xc,.slice pa pn pc,.int .i64 t1,.int .i64 t2,.slice none 0 0]:=by rw[hwe.out];exact (hbs5.set 2 _ (by simp)).set 3 _ (by simp)
     have oe:af K w we:=by rw[hwe.out];exact ((o3.trans o5).iG (by omega) 2 _).iG (by omega) 3 _
     have he:Pz E TX TB en S K tv sv fv we j5:=h.adv oe (p5.box.only oe0 (Ne.symm hK1)) p5.le;have b6:=(b3.only o5 hK).only oe0 hRs;have hG6:=aI (aI hG4 o5 hKG) oe0 hBG;have s6:=oe0.size;clear hr4 q4;go_wp2_with fail
     rw[<-hwe.out];clear x0 f0 x1 f1 x2 f2 x3 f3 x4 f4 xl
     cases q8:pB E f j5 with
     | error k =>
      refine (GR (zh f).2 he (by omega) q8).mono ?_;rintro e w8 ⟨rfl,o9⟩;have HZ:=HNo.out _ w8 (by rw[<-hr5,q8];rfl) (oe.trans o9);go_wp2_with fail
      exact⟨rfl,HZ⟩
     | ok y =>
      obtain⟨b,j8⟩:=y;have hadv8:=(uZ h.fit f).2.1 _ _ _ q8;refine (BC (zh f).2 he (by omega) q8).mono ?_;rintro e w8 ⟨ba,bn,bc_,D,rfl,o8,h8,hD,fD⟩;have s8:=o8.size;have hbs8:=hbs6.only o8 hK1;have hG8:=aI hG6 o8 hKG;have hBD:w1.heap.size∉D:=fD.iy (by omega) hBT;obtain⟨wd,hwd⟩:=hidx (w8.setCell ⟨w1.heap.size,4,none⟩ (.slice ba bn bc_));have od0:af w1.heap.size w8 wd:=by rw[hwd.out];exact (af.refl _ w8).set 4 _
      have hbs9:Bxx wd w1.heap.size [.slice xa xn xc,.slice pa pn pc,.int .i64 t1,.int .i64 t2,.slice ba bn bc_]:=by rw[hwd.out];exact hbs8.set 4 _ (by simp)
      have od:af K w wd:=by rw[hwd.out];exact (oe.trans o8).iG (by omega) 4 _
      have hd:Pz E TX TB en S K tv sv fv wd j8:=h.adv od (h8.ps.box.only od0 (Ne.symm hK1)) h8.ps.le;have b9:=(b6.only o8 hK).only od0 hRs;have fa:aJ TB (w.heap.size+1) i j8 ((TB i++G)++D):=aJ.app (h.tb.mono (Nat.le_succ _)) fG1 (fun b q=>Nat.lt_of_lt_of_le (hlA b q) (by omega)) (by omega) fD (by omega) (by omega) (by omega);have hn:=hd.ps.nameAt hi;rw[HX.out]at hn;obtain⟨⟨⟨x0,f0⟩,⟨x1,f1⟩,⟨x2,f2⟩,⟨x3,f3⟩,⟨x4,f4⟩⟩,xl⟩:=hbs8.five;obtain⟨W,hW,hXW,HZ⟩:=P5 (r:=r) (j:=j8) (nm:=E.txt i) (ps:=ps) (rk:=t1) (rn:=t2) (bs:=b) h (by rw[<-hr5,q8];rfl) od hd.ps b9 hn (aI hG8 od0 hBG) (aI hD od0 hBD) (by rw[<-List.append_assoc];exact fa);clear hr5 q8 hD hG8 hn;go_upto_region 6 with fail
      rw[<-hwd.out];clear x0 f0 x1 f1 x2 f2 x3 f3 x4 f4 xl;obtain⟨⟨⟨z0,y0⟩,⟨z1,y1⟩,⟨z2,y2⟩,⟨z3,y3⟩,⟨z4,y4⟩⟩,zl⟩:=hbs9.five;obtain⟨⟨⟨x0,f0⟩,⟨x1,f1⟩,⟨x2,f2⟩,⟨x3,f3⟩,⟨x4,f4⟩⟩,xl⟩:=b9.five;obtain⟨⟨⟨e0,_⟩,⟨e1,_⟩,⟨e2,_⟩,⟨e3,_⟩,⟨e4,_⟩⟩,_⟩:=hXW.five
      generalize PcP E TX TB en S K tv sv fv w r (P6 TB w.heap.size i)=Q at *
      clear HNo hXW HX hxn;go_wp2_with fail
      rw[<-hW.out];exact bodyPost_ret (v:=.agg #[.slice xa xn xc,.slice pa pn pc,.int .i64 t1,.int .i64 t2,.slice ba bn bc_]) (by simp[results,Tryz.results18,go_sem,e0,e1,e2,e3,e4]) rfl HZ.out
 ·refine (ww ha q1).mono ?_;rintro e w1 ⟨rfl,o1⟩;have HZ:=HNo.out _ w1 (HR.out.symm.trans (by unfold lU;rw[wM h.nm q1];rfl)) (oa.trans o1);go_wp2_with fail
  exact⟨rfl,HZ⟩
def Aa (E:ak) (i:Nat):PR (List Int):=if aY (E.txt i) true=true/\E.txt i∉E.ns then .ok (E.txt i,i+1) else .error i
theorem Ce {ns:List (List Int)}{t:List Int}:¬ 0<=placeOf ns t↔t∉ns:=by
 unfold placeOf
 cases h:ns.findIdx? (fun x=>x==t) with
 | none =>
  rw[List.findIdx?_eq_none_iff]at h;refine⟨fun _ q=>?_,fun _=>(by decide)⟩;have:=h t q;simp at this
 | some n =>
  obtain⟨hn,he,_⟩:=List.findIdx?_eq_some_iff_getElem.1 h;refine⟨fun q=>absurd (Int.natCast_nonneg n) q,fun q=>absurd ?_ q⟩;have:ns[n]=t:=by simpa using he
  exact this ▸ List.getElem_mem hn
theorem MR (E:ak) (TX:Nat->Value) (TB:Nat->List Nat) (en:Int) (S:List Sc) (K:Nat) (tv sv fv:Value) (w:World) (i:Nat) (h:Ps E TX TB en S K tv sv fv w i):Calls Tryz.prog 41 #[.pointer (some ⟨K,0,none⟩)] w (PcP E TX TB en S K tv sv fv w (Aa E i) (fun _ _ v _=>v=TX i)):=by
 have hp:=gm E TX TB en S K tv sv fv w i h;have hW:=fun w' (l:Later w w')=>vg (txV E TX i) (E.txt i) w' ((h.later l).text i);have hN:=fun w' (l:Later w w')=>yJ sv (txV E TX i) S (E.txt i) w' ((h.later l).scs w' (af.refl _ _)) ((h.later l).text i).rd;rw[h.ns]at hN;have hle:=h.le;have hfew:=(h.tks w (af.refl _ _)).few;obtain⟨sa,sc,rfl,_⟩:=Sc.slice (h.scs w (af.refl _ _));obtain⟨xa,xc,hx,_⟩:=(h.text i).slice;unfold tkV at hp;rw[hx]at hp hN hW
 have HC:Hid (∀ w1,Later w w1->(w1.cell? ⟨K,1,none⟩=some (.int .i64 (i:Int))/\w1.frozen? ⟨K,1,none⟩=false/\K<w1.heap.size)/\w1.cell? ⟨K,3,none⟩=some (.slice sa S.length sc)):=fun w1 l=>⟨(h.later l).cells,((h.later l).box.cell 3 _ rfl).1⟩
 have HY:Hid (∀ w1,aY (E.txt i) true=true->¬ 0<=placeOf E.ns (E.txt i)->Later w w1->PcP E TX TB en S K tv (.slice sa S.length sc) fv w (Aa E i) (fun _ _ v _=>v=TX i) (.returned (.slice xa (E.txt i).length xc)) (w1.setCell ⟨K,1,none⟩ (.int .i64 ((i:Int)+1)))):=fun w1 q1 q2 l=>by
  have hi:=ak.aX (E:=E) (i:=i) (fun e=>by rw[e]at q1;revert q1;decide);have e1:txV E TX i=TX i:=by unfold txV;rw[List.getElem?_eq_getElem hi]
  exact PcP.yes (j:=i+1) (x:=E.txt i) (by unfold Aa;rw[if_pos ⟨q1,Ce.1 q2⟩]) ((af.of_later l).set 1 _) ((h.later l).step hi) (by rw[<-hx,e1])
 have HN:Hid (∀ w1,(aY (E.txt i) true=true->0<=placeOf E.ns (E.txt i))->Later w w1->PcP E TX TB en S K tv (.slice sa S.length sc) fv w (Aa E i) (fun _ _ v _=>v=TX i) (.panicked [{ v:=.iface 36 (.int .i64 (E.pos en i)),recovered:=false }]) w1):=fun w1 q l=>PcP.no (by unfold Aa;rw[if_neg fun a=>Ce.2 a.2 (q a.1)]) (af.of_later l)
 generalize PcP E TX TB en S K tv (.slice sa S.length sc) fv w (Aa E i) (fun _ _ v _=>v=TX i)=Q at *
 clear h hx
 generalize placeOf E.ns (E.txt i)=pl at *
 generalize aY (E.txt i) true=wd at *
 generalize (E.txt i).length=xn at *
 generalize E.kind i=tk at *
 generalize E.num i=tn at *
 generalize E.pos en i=tp at *
 generalize S.length=sn at *
 go_enter Tryz.func41,Tryz.ntmps41;go_wp2_with fail
 refine hp.mono ?_;rintro e w1 ⟨rfl,l1⟩;obtain⟨wb,hwb⟩:=hidx (w1.alloc (.cells #[.int .i64 tk,.int .i64 tp,.int .i64 tn,.slice xa xn xc] 45));have lb:Later w wb:=by rw[hwb.out];exact l1.trans (ae _ _)
 have hbx:Bxx wb w1.heap.size [.int .i64 tk,.int .i64 tp,.int .i64 tn,.slice xa xn xc]:=by rw[hwb.out];exact Bxx.new _ _ _
 have HS:Hid (∀ w',Later wb w'->(w'.cell? ⟨K,3,none⟩=some (.slice sa sn sc)/\w'.cell? ⟨w1.heap.size,3,none⟩=some (.slice xa xn xc))):=fun w' l=>⟨(HC.out w' (lb.trans l)).2,((hbx.later l).cell 3 _ rfl).1⟩
 have HB:Hid (∀ w',Later wb w'->w'.cell? ⟨w1.heap.size,1,none⟩=some (.int .i64 tp)/\w'.cell? ⟨w1.heap.size,3,none⟩=some (.slice xa xn xc)/\w1.heap.size<w'.heap.size):=fun w' l=>⟨((hbx.later l).cell 1 _ rfl).1,((hbx.later l).cell 3 _ rfl).1,(hbx.later l).lt⟩
 have hKn:w1.heap.size≠K:=by have:=(HC.out w1 l1).1.2.2;omega
 clear hp hbx;go_upto_region 2 with fail
 rw[<-hwb.out]
 cases wd
 ·obtain⟨s3,z3⟩:=HS.out wb (Later.refl _);obtain⟨b1,b3,bl⟩:=HB.out wb (Later.refl _);go_quiet ((go_at_call 38;exact Calls.quiet_of_same (hW _ (lb.trans (bg (Later.refl _) _)))))
  all_goals
   go_wp2_with fail
   exact⟨rfl,HN.out _ (fun q=>(by cases q)) (lb.trans (bg (Later.refl wb) _))⟩
 ·by_cases q:0<=pl
  ·have q':decide (0<=pl)=true:=decide_eq_true q;go_region_held3 (fun w'=>w'.cell? ⟨K,3,none⟩=some (.slice sa sn sc)/\w'.cell? ⟨w1.heap.size,3,none⟩=some (.slice xa xn xc)) (first|exact HS.out _ (Later.drew _)|exact HS.out _ ((Later.drew _).trans l2)) (first|(go_at_call 38;refine (hW _ (lb.trans (Later.drew _))).mono ?_;rintro e w3 ⟨rfl,hww⟩;obtain rfl:=hww.symm)|(go_at_call 73;refine (hN _ (lb.trans (Later.drew _))).mono ?_;rintro e w2 ⟨rfl,l2⟩))
   all_goals
    have L2:=(Later.drew wb).trans l2;obtain⟨b1,b3,bl⟩:=HB.out w2 L2;have HZ:=HN.out w2 (fun _=>(by omega)) (lb.trans L2);clear HC HB HN HY HS hN hW;go_wp2_with fail
    exact⟨rfl,HZ⟩
  ·have q':decide (0<=pl)=false:=decide_eq_false q;go_region_held3 (fun w'=>w'.cell? ⟨K,3,none⟩=some (.slice sa sn sc)/\w'.cell? ⟨w1.heap.size,3,none⟩=some (.slice xa xn xc)) (first|exact HS.out _ (Later.drew _)|exact HS.out _ ((Later.drew _).trans l2)) (first|(go_at_call 38;refine (hW _ (lb.trans (Later.drew _))).mono ?_;rintro e w3 ⟨rfl,hww⟩;obtain rfl:=hww.symm)|(go_at_call 73;refine (hN _ (lb.trans (Later.drew _))).mono ?_;rintro e w2 ⟨rfl,l2⟩))
   all_goals
    have L2:=(Later.drew wb).trans l2;obtain⟨⟨c1,c2,c3⟩,c4⟩:=HC.out w2 (lb.trans L2);obtain⟨b1,b3,bl⟩:=HB.out w2 L2;have HZ:=HY.out w2 (by first|trivial|rfl) (by omega) (lb.trans L2);clear HC HB HN HY HS hN hW;go_wp2_with fail
    exact HZ
end Go.Proofs.YtgaddpkkjebekaaGreatDoor
