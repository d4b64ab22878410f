import Derived.Test.YtgaddpkkjebekaaGreatDoorZ39
import Derived.Test.YtgaddpkkjebekaaGreatDoorZ08
import Derived.Test.YtgaddpkkjebekaaGreatDoorZ02
set_option maxHeartbeats 100000000
set_option maxRecDepth 100000
namespace Go.Proofs.YtgaddpkkjebekaaGreatDoor
open Go.RowKit Go.Maps
theorem Oq {E:ak}{i:Nat}(q:E.txt i=[91]):pTy E i=lJ E i:=by unfold pTy;rw[if_pos q]
theorem Rx {E:ak}{i:Nat}(q:E.txt i≠[91]):pTy E i=wH E 1 i:=by unfold pTy;rw[if_neg q]
theorem JQ {E:ak}{TX:Nat->Value}{TB:Nat->List Nat}{en:Int}{S:List Sc}{K:Nat}{tv sv fv:Value}{w:World}{i:Nat}(h:Ps E TX TB en S K tv sv fv w i) (F:E.Fit) {t:Int × Int}{j:Nat}(q:lJ E i=.ok (t,j)):Calls Tryz.prog 74 #[.pointer (some ⟨K,0,none⟩)] w fun e w'=>e=.returned (.agg #[.int .i64 t.1,.int .i64 t.2])/\af K w w'/\Ps E TX TB en S K tv sv fv w' j :=
 (Dc E TX TB en S K tv sv fv w i h F).mono fun _ _ r=>by
  obtain⟨v,e1,p,e2⟩:=r.well t j q;exact⟨by rw[e1,e2],r.only,p⟩
theorem OZ {E:ak}{TX:Nat->Value}{TB:Nat->List Nat}{en:Int}{S:List Sc}{K:Nat}{tv sv fv:Value}{w:World}{i:Nat}(h:Ps E TX TB en S K tv sv fv w i) (F:E.Fit) {k:Nat}(q:lJ E i=.error k):Calls Tryz.prog 74 #[.pointer (some ⟨K,0,none⟩)] w fun e w'=>e=.panicked [{ v:=.iface 36 (.int .i64 (E.pos en k)),recovered:=false }]/\af K w w' :=
 (Dc E TX TB en S K tv sv fv w i h F).mono fun _ _ r=>⟨r.bad k q,r.only⟩
theorem FV (E:ak) (TX:Nat->Value) (TB:Nat->List Nat) (en:Int) (S:List Sc) (K:Nat) (tv sv fv:Value) (w:World) (i:Nat) (h:Ps E TX TB en S K tv sv fv w i) (F:E.Fit):Calls Tryz.prog 46 #[.pointer (some ⟨K,0,none⟩)] w (PcP E TX TB en S K tv sv fv w (pTy E i) EG):=by
 have HNo:Hid (∀ k w',pTy E i=.error k->af K w w'->PcP E TX TB en S K tv sv fv w (pTy E i) EG (.panicked [{ v:=.iface 36 (.int .i64 (E.pos en k)),recovered:=false }]) w'):=fun k w' e o=>PcP.no e o;have HY:Hid (∀ t j w',pTy E i=.ok (t,j)->af K w w'->Ps E TX TB en S K tv sv fv w' j->PcP E TX TB en S K tv sv fv w (pTy E i) EG (.returned (.agg #[.int .i64 t.1,.int .i64 t.2])) ((w'.setCell ⟨w.heap.size,0,none⟩ (.int .i64 t.1)).setCell ⟨w.heap.size,1,none⟩ (.int .i64 t.2))):=fun t j w' e o p=>PcP.yes e (JA h o p _ _).1 (JA h o p _ _).2 rfl
 generalize PcP E TX TB en S K tv sv fv w (pTy E i) EG=Q at *
 have hK:w.heap.size≠K:=by have:=h.box.lt;omega
 obtain⟨wa,hwa⟩:=hidx (w.alloc (.cells #[.int .i64 0,.int .i64 0] 52));have la:Later w wa:=by rw[hwa.out];exact ae _ _
 have ha:=h.later la;have hbx:Bxx wa w.heap.size [.int .i64 0,.int .i64 0]:=by rw[hwa.out];exact Bxx.new _ _ _
 have oa:af K w wa:=af.of_later la;clear h;go_enter Tryz.func46,Tryz.ntmps46;go_wp2_with fail
 rw[<-hwa.out];refine (nT E TX TB en S K tv sv fv wa i ha _ _ Am).mono ?_;rintro e w1 ⟨rfl,l1⟩;have o1:af K wa w1:=af.of_later l1;have h1:=ha.later l1;by_cases q1:E.txt i=[91]
 ·rw[decide_eq_true q1];have hin:=Oq q1;go_wp2_with fail
  cases q6:lJ E i with
  | error k =>
   refine (OZ h1 F q6).mono ?_;rintro e w6 ⟨rfl,o6⟩;have HZ:=HNo.out _ w6 (by rw[hin,q6]) ((oa.trans o1).trans o6);go_wp2_with fail
   exact⟨rfl,HZ⟩
  | ok y =>
   obtain⟨t,j⟩:=y;refine (JQ h1 F q6).mono ?_;rintro e w6 ⟨rfl,o6,h6⟩;have HZ:=HY.out t j w6 (by rw[hin,q6]) ((oa.trans o1).trans o6) h6;have hb3:=(hbx.only o1 hK).only o6 hK;have b0:=(hb3.cell 0 _ rfl).1;have b1:=(hb3.cell 1 _ rfl).1;have f0:=(hb3.cell 0 _ rfl).2;have f1:=(hb3.cell 1 _ rfl).2;have bl:=hb3.lt;go_wp2_with fail
   exact bodyPost_ret (v:=.agg #[.int .i64 t.1,.int .i64 t.2]) (by simp[results,Tryz.results46,go_sem,b0,b1]) rfl HZ
 ·rw[decide_eq_false q1];have hin:=Rx q1;go_wp2_with fail
  by_cases q3:E.txt i=[105,110,116]
  ·refine (bG h1 _ _ sO (by decide) q3).mono ?_;rintro e w3 ⟨rfl,o3,h3⟩;have HZ:=HY.out _ _ w3 (hin.trans (EY q3)) ((oa.trans o1).trans o3) h3;have hb3:=(hbx.only o1 hK).only o3 hK;have b0:=(hb3.cell 0 _ rfl).1;have b1:=(hb3.cell 1 _ rfl).1;have f0:=(hb3.cell 0 _ rfl).2;have f1:=(hb3.cell 1 _ rfl).2;have bl:=hb3.lt;go_wp2_with fail
   exact bodyPost_ret (v:=.agg #[.int .i64 1,.int .i64 0]) (by simp[results,Tryz.results46,go_sem,b0,b1]) rfl HZ
  ·refine (bT h1 _ _ sO (by decide) q3).mono ?_;rintro e w3 ⟨rfl,o3,h3⟩;go_wp2_with fail
   by_cases q4:E.txt i=[102,108,111,97,116]
   ·refine (bG h3 _ _ kL (by decide) q4).mono ?_;rintro e w4 ⟨rfl,o4,h4⟩;have HZ:=HY.out _ _ w4 (hin.trans (zZ q4)) (((oa.trans o1).trans o3).trans o4) h4;have hb3:=((hbx.only o1 hK).only o3 hK).only o4 hK;have b0:=(hb3.cell 0 _ rfl).1;have b1:=(hb3.cell 1 _ rfl).1;have f0:=(hb3.cell 0 _ rfl).2;have f1:=(hb3.cell 1 _ rfl).2;have bl:=hb3.lt;go_wp2_with fail
    exact bodyPost_ret (v:=.agg #[.int .i64 2,.int .i64 0]) (by simp[results,Tryz.results46,go_sem,b0,b1]) rfl HZ
   ·refine (bT h3 _ _ kL (by decide) q4).mono ?_;rintro e w4 ⟨rfl,o4,h4⟩;go_wp2_with fail
    by_cases q5:E.txt i=[42]
    ·refine (df h4 _ _ wR (by decide) q5).mono ?_;rintro e w5 ⟨rfl,o5,h5⟩;have hst:=hin.trans (Cj q5);have oo:=(((oa.trans o1).trans o3).trans o4).trans o5;have hb5:=(((hbx.only o1 hK).only o3 hK).only o4 hK).only o5 hK;go_wp2_with fail
     cases q6:kV E (i+1) with
     | error k =>
      refine (D5 h5 F q6).mono ?_;rintro e w6 ⟨rfl,o6⟩;have HZ:=HNo.out _ w6 (by rw[hst,q6];rfl) (oo.trans o6);go_wp2_with fail
      exact⟨rfl,HZ⟩
     | ok y =>
      obtain⟨n,j⟩:=y;refine (zu h5 F q6).mono ?_;rintro e w6 ⟨rfl,o6,h6⟩;have HZ:=HY.out (3,n) j w6 (by rw[hst,q6];rfl) (oo.trans o6) h6;have hb3:=hb5.only o6 hK;have b0:=(hb3.cell 0 _ rfl).1;have b1:=(hb3.cell 1 _ rfl).1;have f0:=(hb3.cell 0 _ rfl).2;have f1:=(hb3.cell 1 _ rfl).2;have bl:=hb3.lt;go_wp2_with fail
      exact bodyPost_ret (v:=.agg #[.int .i64 3,.int .i64 n]) (by simp[results,Tryz.results46,go_sem,b0,b1]) rfl HZ
    ·refine (dN h4 _ _ wR (by decide) q5).mono ?_;rintro e w5 ⟨rfl,o5⟩;have HZ:=HNo.out _ w5 (hin.trans (JH q3 q4 q5)) ((((oa.trans o1).trans o3).trans o4).trans o5);go_wp2_with fail
     exact⟨rfl,HZ⟩
theorem Hq {E:ak}{TX:Nat->Value}{TB:Nat->List Nat}{en:Int}{S:List Sc}{K:Nat}{tv sv fv:Value}{w:World}{i:Nat}(h:Ps E TX TB en S K tv sv fv w i) (F:E.Fit) {t:Int × Int}{j:Nat}(q:pTy E i=.ok (t,j)):Calls Tryz.prog 46 #[.pointer (some ⟨K,0,none⟩)] w fun e w'=>e=.returned (.agg #[.int .i64 t.1,.int .i64 t.2])/\af K w w'/\Ps E TX TB en S K tv sv fv w' j :=
 (FV E TX TB en S K tv sv fv w i h F).mono fun _ _ r=>by
  obtain⟨v,e1,p,e2⟩:=r.well t j q;exact⟨by rw[e1,e2],r.only,p⟩
theorem NI {E:ak}{TX:Nat->Value}{TB:Nat->List Nat}{en:Int}{S:List Sc}{K:Nat}{tv sv fv:Value}{w:World}{i:Nat}(h:Ps E TX TB en S K tv sv fv w i) (F:E.Fit) {k:Nat}(q:pTy E i=.error k):Calls Tryz.prog 46 #[.pointer (some ⟨K,0,none⟩)] w fun e w'=>e=.panicked [{ v:=.iface 36 (.int .i64 (E.pos en k)),recovered:=false }]/\af K w w' :=
 (FV E TX TB en S K tv sv fv w i h F).mono fun _ _ r=>⟨r.bad k q,r.only⟩
theorem OW {E:ak}{TX:Nat->Value}{TB:Nat->List Nat}{en:Int}{S:List Sc}{K:Nat}{tv sv fv:Value}{w:World}{i:Nat}(h:Ps E TX TB en S K tv sv fv w i) (hn:E.nm=aQ) (q:aQ (E.txt i)=true):Calls Tryz.prog 44 #[.pointer (some ⟨K,0,none⟩)] w fun e w'=>e=.returned (TX i)/\af K w w'/\Ps E TX TB en S K tv sv fv w' (i+1) :=
 (oU E TX TB en S K tv sv fv w i h hn).mono fun _ _ r=>by
  obtain⟨v,e1,p,e2⟩:=r.well (E.txt i) (i+1) (by unfold eX;rw[hn,if_pos q]);exact⟨by rw[e1,e2],r.only,p⟩
theorem Su {E:ak}{TX:Nat->Value}{TB:Nat->List Nat}{en:Int}{S:List Sc}{K:Nat}{tv sv fv:Value}{w:World}{i:Nat}(h:Ps E TX TB en S K tv sv fv w i) (hn:E.nm=aQ) (q:¬ aQ (E.txt i)=true):Calls Tryz.prog 44 #[.pointer (some ⟨K,0,none⟩)] w fun e w'=>e=.panicked [{ v:=.iface 36 (.int .i64 (E.pos en i)),recovered:=false }]/\af K w w' :=
 (oU E TX TB en S K tv sv fv w i h hn).mono fun _ _ r=>⟨r.bad i (by unfold eX;rw[hn,if_neg q]),r.only⟩
theorem Ps.tx {E:ak}{TX:Nat->Value}{TB:Nat->List Nat}{en:Int}{S:List Sc}{K:Nat}{tv sv fv:Value}{w:World}{i:Nat}(h:Ps E TX TB en S K tv sv fv w i) {k:Nat}(hk:k<E.l.length):∃ a cap,TX k=.slice a E.l[k].2.2.2.length cap:=jb ((h.tks w (af.refl _ _)).txt k hk)
def Ru (TX:Nat->Value) (i:Nat) (x:Pa) (_:Nat) (v:Value) (_:World):Prop:=v=.agg #[TX i,.int .i64 x.tk,.int .i64 x.tn]
theorem Ie {E:ak}{i:Nat}(hn:E.nm=aQ) (q:¬ aQ (E.txt i)=true):dR E i=.error i:=by unfold dR eX;rw[hn,if_neg q];rfl
theorem LY {E:ak}{i:Nat}(hn:E.nm=aQ) (q:aQ (E.txt i)=true):dR E i=PR.andThen (pTy E (i+1)) fun t j=>.ok (.mk (E.txt i) t.1 t.2,j):=by unfold dR eX;rw[hn,if_pos q];rfl
theorem yH (E:ak) (TX:Nat->Value) (TB:Nat->List Nat) (en:Int) (S:List Sc) (K:Nat) (tv sv fv:Value) (w:World) (i:Nat) (h:Ps E TX TB en S K tv sv fv w i) (F:E.Fit) (hn:E.nm=aQ):Calls Tryz.prog 43 #[.pointer (some ⟨K,0,none⟩)] w (PcP E TX TB en S K tv sv fv w (dR E i) (Ru TX i)):=by
 have HNo:Hid (∀ k w',dR E i=.error k->af K w w'->PcP E TX TB en S K tv sv fv w (dR E i) (Ru TX i) (.panicked [{ v:=.iface 36 (.int .i64 (E.pos en k)),recovered:=false }]) w'):=fun k w' e o=>PcP.no e o;have HY:Hid (∀ x j w',dR E i=.ok (x,j)->af K w w'->Bxx w' K [tv,.int .i64 (j:Int),.int .i64 en,sv,fv]->j<=E.l.length->PcP E TX TB en S K tv sv fv w (dR E i) (Ru TX i) (.returned (.agg #[TX i,.int .i64 x.tk,.int .i64 x.tn])) w'):=fun x j w' e o hb hj=>PcP.yes e o (h.move o hb hj) rfl
 generalize PcP E TX TB en S K tv sv fv w (dR E i) (Ru TX i)=Q at *
 have hKl:=h.box.lt;have hK:w.heap.size≠K:=by omega
 obtain⟨wa,hwa⟩:=hidx (w.alloc (.cells #[.slice none 0 0,.int .i64 0,.int .i64 0] 75));have la:Later w wa:=by rw[hwa.out];exact ae _ _
 have ha:=h.later la;have hbx:Bxx wa w.heap.size [.slice none 0 0,.int .i64 0,.int .i64 0]:=by rw[hwa.out];exact Bxx.new _ _ _
 have oa:af K w wa:=af.of_later la;go_enter Tryz.func43,Tryz.ntmps43;go_wp2_with fail
 rw[<-hwa.out];by_cases q:aQ (E.txt i)=true
 ·have hi:=ak.aX (E:=E) (i:=i) (fun e=>by rw[e]at q;revert q;decide);obtain⟨xa,xc,hx⟩:=h.tx hi;refine (OW ha hn q).mono ?_;rintro e w1 ⟨rfl,o1,h1⟩;rw[hx]at HY ⊢
  generalize E.l[i].2.2.2.length=xn at *
  have hin:=LY hn q;obtain⟨wb,hwb⟩:=hidx (w1.alloc (.cells #[.slice xa xn xc,.int .i64 0,.int .i64 0] 75));have lb:Later w1 wb:=by rw[hwb.out];exact ae _ _
  have h2:=h1.later lb;have hby:Bxx wb w1.heap.size [.slice xa xn xc,.int .i64 0,.int .i64 0]:=by rw[hwb.out];exact Bxx.new _ _ _
  have s1:=o1.size;have hbl:=hbx.lt;have hK1:w1.heap.size≠K:=by omega
  have hw1:w.heap.size≠w1.heap.size:=by omega
  have hw1':w1.heap.size≠w.heap.size:=by omega
  have ob:af K w wb:=(oa.trans o1).trans (af.of_later lb);have hbxb:=(hbx.only o1 hK).later lb;clear h;go_wp2_with fail
  rw[<-hwb.out]
  cases q6:pTy E (i+1) with
  | error k =>
   refine (NI h2 F q6).mono ?_;rintro e w6 ⟨rfl,o6⟩;have HZ:=HNo.out _ w6 (by rw[hin,q6];rfl) (ob.trans o6);go_wp2_with fail
   exact⟨rfl,HZ⟩
  | ok y =>
   obtain⟨t,j⟩:=y;refine (Hq h2 F q6).mono ?_;rintro e w6 ⟨rfl,o6,h6⟩;have hb6:=hbxb.only o6 hK;have hy6:=hby.only o6 hK1;have b0:=(hb6.cell 0 _ rfl).1;have b1:=(hb6.cell 1 _ rfl).1;have b2:=(hb6.cell 2 _ rfl).1;have f0:=(hb6.cell 0 _ rfl).2;have f1:=(hb6.cell 1 _ rfl).2;have f2:=(hb6.cell 2 _ rfl).2;have a0:=(hy6.cell 0 _ rfl).1;have a1:=(hy6.cell 1 _ rfl).1;have a2:=(hy6.cell 2 _ rfl).1;have g0:=(hy6.cell 0 _ rfl).2;have g1:=(hy6.cell 1 _ rfl).2;have g2:=(hy6.cell 2 _ rfl).2;have bl:=hb6.lt;have al:=hy6.lt;have HZ:=fun w'=>HY.out (.mk (E.txt i) t.1 t.2) j w' (by rw[hin,q6];rfl);go_wp2_with fail
   refine bodyPost_ret (v:=.agg #[.slice xa xn xc,.int .i64 t.1,.int .i64 t.2]) (by simp[results,Tryz.results43,go_sem,b0,b1,b2]) rfl (HZ _ ?_ ?_ h6.le)
   ·repeat (first|with_reducible exact ob.trans o6|refine af.iG ?_ (by omega) _ _)
   ·repeat (first|with_reducible exact h6.box|refine Bxx.other ?_ (by omega) _)
 ·refine (Su ha hn q).mono ?_;rintro e w1 ⟨rfl,o1⟩;have HZ:=HNo.out _ w1 (Ie hn q) (oa.trans o1);go_wp2_with fail
  exact⟨rfl,HZ⟩
def qx (i:Nat):List Int:=[[43],[45],[42],[47],[37],[60],[61,61]].getD i []
theorem pg {w w':World}{b o:Nat}(h:w'.heap[b]?=w.heap[b]?):w'.cell? ⟨b,o,none⟩=w.cell? ⟨b,o,none⟩:=by unfold World.cell?;rw[h]
structure OpE (W:World):Prop where
 big:5<W.heap.size
 ops:∃ ss:Nat->ByteArray,∀ j,j<7->W.cell? ⟨5,j,none⟩=some (.string (ss j))/\Lit (ss j) (qx j)
theorem OpE.only {K:Nat}{w w':World}(h:OpE w) (o:af K w w') (hK:5≠K):OpE w':=⟨Nat.lt_of_lt_of_le h.big o.size,by
 obtain⟨ss,e⟩:=h.ops
 exact⟨ss,fun j hj=>⟨by rw[pg (o.block _ h.big hK)];exact (e j hj).1,(e j hj).2⟩⟩⟩
theorem RU {t:List Int}{j:Nat}(hj:j<7) (h:t=qx j):RV t=some (j:Int):=by
 subst h
 match j,hj with
 | 0,_=>rfl
 | 1,_=>rfl
 | 2,_=>rfl
 | 3,_=>rfl
 | 4,_=>rfl
 | 5,_=>rfl
 | 6,_=>rfl
theorem MC {t:List Int}(h:∀ j,j<7->t≠qx j):RV t=none:=by
 show (if t=qx 0 then some 0 else if t=qx 1 then some 1 else if t=qx 2 then some 2 else if t=qx 3 then some 3 else if t=qx 4 then some 4 else if t=qx 5 then some 5 else if t=qx 6 then some 6 else none)=none;rw[if_neg (h 0 (by decide)),if_neg (h 1 (by decide)),if_neg (h 2 (by decide)),if_neg (h 3 (by decide)),if_neg (h 4 (by decide)),if_neg (h 5 (by decide)),if_neg (h 6 (by decide))]
theorem RX {j:Nat}(hj:j<7):qx j≠[]:=by
 match j,hj with
 | 0,_=>decide
 | 1,_=>decide
 | 2,_=>decide
 | 3,_=>decide
 | 4,_=>decide
 | 5,_=>decide
 | 6,_=>decide
theorem U8 (ss:Nat->ByteArray) (w:World):(Instr.index 236 (.agg #[.string (ss 0),.string (ss 1),.string (ss 2),.string (ss 3),.string (ss 4),.string (ss 5),.string (ss 6)]) (.int .i64 ((0:Nat):Int))).run Tryz.prog w=.ok (.string (ss 0)) w:=by kernel_rfl
theorem U7 (ss:Nat->ByteArray) (w:World):(Instr.index 236 (.agg #[.string (ss 0),.string (ss 1),.string (ss 2),.string (ss 3),.string (ss 4),.string (ss 5),.string (ss 6)]) (.int .i64 ((1:Nat):Int))).run Tryz.prog w=.ok (.string (ss 1)) w:=by kernel_rfl
theorem U6 (ss:Nat->ByteArray) (w:World):(Instr.index 236 (.agg #[.string (ss 0),.string (ss 1),.string (ss 2),.string (ss 3),.string (ss 4),.string (ss 5),.string (ss 6)]) (.int .i64 ((2:Nat):Int))).run Tryz.prog w=.ok (.string (ss 2)) w:=by kernel_rfl
theorem U5 (ss:Nat->ByteArray) (w:World):(Instr.index 236 (.agg #[.string (ss 0),.string (ss 1),.string (ss 2),.string (ss 3),.string (ss 4),.string (ss 5),.string (ss 6)]) (.int .i64 ((3:Nat):Int))).run Tryz.prog w=.ok (.string (ss 3)) w:=by kernel_rfl
theorem U4 (ss:Nat->ByteArray) (w:World):(Instr.index 236 (.agg #[.string (ss 0),.string (ss 1),.string (ss 2),.string (ss 3),.string (ss 4),.string (ss 5),.string (ss 6)]) (.int .i64 ((4:Nat):Int))).run Tryz.prog w=.ok (.string (ss 4)) w:=by kernel_rfl
theorem U3 (ss:Nat->ByteArray) (w:World):(Instr.index 236 (.agg #[.string (ss 0),.string (ss 1),.string (ss 2),.string (ss 3),.string (ss 4),.string (ss 5),.string (ss 6)]) (.int .i64 ((5:Nat):Int))).run Tryz.prog w=.ok (.string (ss 5)) w:=by kernel_rfl
theorem U2 (ss:Nat->ByteArray) (w:World):(Instr.index 236 (.agg #[.string (ss 0),.string (ss 1),.string (ss 2),.string (ss 3),.string (ss 4),.string (ss 5),.string (ss 6)]) (.int .i64 ((6:Nat):Int))).run Tryz.prog w=.ok (.string (ss 6)) w:=by kernel_rfl
theorem idx7 (ss:Nat->ByteArray) (j:Nat) (hj:j<7) (w:World):(Instr.index 236 (.agg #[.string (ss 0),.string (ss 1),.string (ss 2),.string (ss 3),.string (ss 4),.string (ss 5),.string (ss 6)]) (.int .i64 (j:Int))).run Tryz.prog w=.ok (.string (ss j)) w:=by
 match j,hj with
 | 0,_=>exact U8 ss w
 | 1,_=>exact U7 ss w
 | 2,_=>exact U6 ss w
 | 3,_=>exact U5 ss w
 | 4,_=>exact U4 ss w
 | 5,_=>exact U3 ss w
 | 6,_=>exact U2 ss w
theorem FX (E:ak) (TX:Nat->Value) (TB:Nat->List Nat) (en:Int) (S:List Sc) (K:Nat) (tv sv fv:Value) (w:World) (i:Nat) (h:Ps E TX TB en S K tv sv fv w i) (hO:OpE w):Calls Tryz.prog 170 #[.pointer (some ⟨K,0,none⟩)] w (PcP E TX TB en S K tv sv fv w (pOp E i) (fun n _ v _=>v=.int .i64 n)):=by
 have HNo:Hid (∀ w',pOp E i=.error i->af K w w'->PcP E TX TB en S K tv sv fv w (pOp E i) (fun n _ v _=>v=.int .i64 n) (.panicked [{ v:=.iface 36 (.int .i64 (E.pos en i)),recovered:=false }]) w'):=fun w' e o=>PcP.no e o;have HY:Hid (∀ n j w',pOp E i=.ok (n,j)->af K w w'->Ps E TX TB en S K tv sv fv w' j->PcP E TX TB en S K tv sv fv w (pOp E i) (fun n _ v _=>v=.int .i64 n) (.returned (.int .i64 n)) w'):=fun n j w' e o p=>PcP.yes e o p rfl
 generalize PcP E TX TB en S K tv sv fv w (pOp E i) (fun n _ v _=>v=.int .i64 n)=Q at *
 obtain⟨ss,hss⟩:=hO.ops;have HL:Hid (∀ j,j<7->Lit (ss j) (qx j)):=fun j hj=>(hss j hj).2;have c0:=(hss 0 (by decide)).1;have c1:=(hss 1 (by decide)).1;have c2:=(hss 2 (by decide)).1;have c3:=(hss 3 (by decide)).1;have c4:=(hss 4 (by decide)).1;have c5:=(hss 5 (by decide)).1;have c6:=(hss 6 (by decide)).1;have hbg:=hO.big;clear hss hO;go_enter Tryz.func170,Tryz.ntmps170;go_wp2_with fail
 go_loopw [6] (fun v wr=>∃ (j:Nat),v=.int .i64 (j:Int)/\j<=7/\af K w wr/\Ps E TX TB en S K tv sv fv wr i/\Hid (∀ k,k<j->E.txt i≠qx k)) (fun v _=>7 - (intOf v).toNat)
 case atStart=>exact⟨0,rfl,by decide,af.refl _ _,h,fun k hk=>absurd hk (Nat.not_lt_zero _)⟩
 case round =>
  obtain⟨j,rfl,hj,oR,hP,HA⟩:=hrel;clear c0 c1 c2 c3 c4 c5 c6 h;by_cases hlt:j<7
  ·have hT:=fun w' h=>sV E TX TB en S K tv sv fv w' i h (ss j) (qx j) (HL.out j hlt) (RX hlt);have i1:(j:Int)<7:=by omega
   have hop:=fun q=>RU (t:=E.txt i) hlt q;have hix:=fun w'=>idx7 ss j hlt w';go_wp2_with fail
   refine (hT wr hP).mono ?_;rintro e w1 ⟨rfl,o1,hy1,hn1⟩;by_cases q:E.txt i=qx j
   ·rw[decide_eq_true q];have HZ:=HY.out (j:Int) (i+1) w1 (by unfold pOp;rw[hop q]) (oR.trans o1) (hy1 q);clear hT hop HL HNo HY HA hy1 hn1;go_wp2_with fail
    exact HZ
   ·rw[decide_eq_false q];have hP1:=hn1 q
    have HA1:Hid (∀ k,k<j+1->E.txt i≠qx k):=fun k hk=>by
     rcases Nat.lt_or_ge k j with a|a
     ·exact HA.out k a
     ·have:k=j:=by omega
      subst this;exact q
    clear hT hop HL HNo HY HA hy1 hn1;go_wp2_with fail
    go_roundw
    case rel=>exact⟨j+1,by go_num,by omega,oR.trans o1,hP1,HA1⟩
    case measure=>simp[intOf];omega
  ·have i1:¬ (j:Int)<7:=by omega
   have i2:decide ((j:Int)<7)=false:=decide_eq_false i1;have hk:=gm E TX TB en S K tv sv fv wr i hP;have hfd:=Hr;unfold tkV at hk;have HZ:=fun w' (l:Later wr w')=>HNo.out w' (by unfold pOp;rw[MC (fun k hk=>HA.out k (by omega))]) (oR.trans (af.of_later l));have HZ':Hid _:=HZ;clear HNo HY HA HL HZ;go_wp2_with fail
   refine hk.mono ?_;rintro e w2 ⟨rfl,l2⟩;have HZ:=HZ'.out w2 l2;clear hk HZ';go_wp2_with fail
   exact⟨rfl,HZ⟩
structure BF (TB:Nat->List Nat) (B:Nat):Prop where
 lt:∀ k b,b∈TB k->b<B
 one:∀ k,(TB k).Nodup
 apart:∀ k k' b,b∈TB k->b∈TB k'->k=k'
theorem BF.mono {TB:Nat->List Nat}{B M:Nat}(h:BF TB B) (hm:B<=M):BF TB M:=⟨fun k b q=>Nat.lt_of_lt_of_le (h.lt k b q) hm,h.one,h.apart⟩
structure aJ (TB:Nat->List Nat) (B i j:Nat) (F:List Nat):Prop where
 one:F.Nodup
 whr:∀ b∈F,B<=b\/∃ k,i<=k/\k<j/\b∈TB k
theorem aJ.nil (TB:Nat->List Nat) (B i j:Nat):aJ TB B i j []:=⟨List.nodup_nil,fun b q=>by cases q⟩
theorem aJ.mono {TB:Nat->List Nat}{B B' i i' j j':Nat}{F:List Nat}(h:aJ TB B i j F) (hb:B'<=B) (hi:i'<=i) (hj:j<=j'):aJ TB B' i' j' F:=⟨h.one,fun b q=>by
 rcases h.whr b q with a|⟨k,a1,a2,a3⟩
 ·exact .inl (by omega)
 ·exact .inr ⟨k,by omega,by omega,a3⟩⟩
theorem aJ.text {TB:Nat->List Nat}{B:Nat}(h:BF TB B) (k:Nat):aJ TB B k (k+1) (TB k):=⟨h.one k,fun _ q=>.inr ⟨k,Nat.le_refl _,Nat.lt_succ_self _,q⟩⟩
theorem aJ.app {TB:Nat->List Nat}{B M i j j' j2:Nat}{F1 F2:List Nat}(h:BF TB B) (h1:aJ TB B i j F1) (hl:∀ b∈F1,b<M) (hm:B<=M) (h2:aJ TB M j' j2 F2) (hj:j<=j') (hi:i<=j') (hjj:j<=j2):aJ TB B i j2 (F1++F2):=by
 refine⟨List.nodup_append.2 ⟨h1.one,h2.one,fun a ha b hb e=>?_⟩,fun b q=>?_⟩
 ·subst e;rcases h2.whr a hb with q|⟨k,q1,q2,q3⟩
  ·have:=hl a ha;omega
  ·rcases h1.whr a ha with p|⟨k',p1,p2,p3⟩
   ·have:=h.lt k a q3;omega
   ·have:=h.apart k k' a q3 p3;omega
 ·rcases List.mem_append.1 q with q|q
  ·rcases h1.whr b q with a|⟨k,a1,a2,a3⟩
   ·exact .inl a
   ·exact .inr ⟨k,a1,by omega,a3⟩
  ·rcases h2.whr b q with a|⟨k,a1,a2,a3⟩
   ·exact .inl (by omega)
   ·exact .inr ⟨k,by omega,a2,a3⟩
theorem aJ.cons {TB:Nat->List Nat}{B i j g:Nat}{F:List Nat}(h1:aJ TB B i j F) (hl:∀ b∈F,b<g) (hg:B<=g):aJ TB B i j (g::F):=⟨List.nodup_cons.2 ⟨fun q=>by have:=hl g q;omega,h1.one⟩,fun b q=>by
 rcases List.mem_cons.1 q with rfl|q
 ·exact .inl hg
 ·exact h1.whr b q⟩
theorem xW {w:World}{d:Dat}{cs:List Value}{F:List Nat}{g k:Nat}(hb:Bxx w g cs) (hl:cs.length=k) (h:ai w d cs F):ai w (.list k [d]) [.slice (some ⟨g,0,none⟩) 1 1] (g::F):=by
 rw[ai];refine⟨_,_,rfl,⟨by simp,Nat.le_refl _,by decide⟩,fun _=>⟨g,F,rfl,rfl,hb.lt,?_⟩,fun q=>by cases q⟩;rw[ax];refine⟨cs,F,[],(List.append_nil _).symm,hl,fun m u q=>?_,h,by rw[ax]⟩;rw[Nat.zero_mul,Nat.zero_add];exact hb.cell m u q
theorem xU {w:World}{d1 d2:Dat}{c1 c2:List Value}{F1 F2:List Nat}{g k:Nat}(hb:Bxx w g (c1++c2)) (hl1:c1.length=k) (hl2:c2.length=k) (h1:ai w d1 c1 F1) (h2:ai w d2 c2 F2):ai w (.list k [d1,d2]) [.slice (some ⟨g,0,none⟩) 2 2] (g::(F1++F2)):=by
 rw[ai];refine⟨_,_,rfl,⟨by simp,Nat.le_refl _,by decide⟩,fun _=>⟨g,F1++F2,rfl,rfl,hb.lt,?_⟩,fun q=>by cases q⟩;rw[ax];refine⟨c1,F1,F2,rfl,hl1,fun m u q=>?_,h1,?_⟩
 ·rw[Nat.zero_mul,Nat.zero_add];exact hb.cell m u (by rw[List.getElem?_append_left (by have:=(List.getElem?_eq_some_iff.1 q).1;omega)];exact q)
 ·rw[ax];refine⟨c2,F2,[],(List.append_nil _).symm,hl2,fun m u q=>?_,h2,by rw[ax]⟩;rw[Nat.zero_add,Nat.one_mul];exact hb.cell (k+m) u (by rw[List.getElem?_append_right (by omega),hl1,Nat.add_sub_cancel_left];exact q)
theorem aI {w w':World}{d:Dat}{cs:List Value}{F:List Nat}{K:Nat}(h:ai w d cs F) (o:af K w w') (hK:K∉F):ai w' d cs F:=ai.agree o.size d h fun b hb=>o.block b (ai.lt d h b hb) fun e=>hK (e ▸ hb)
theorem aJ.iy {TB:Nat->List Nat}{B i j K:Nat}{F:List Nat}(h:aJ TB B i j F) (hK:K<B) (ht:∀ k,K∉TB k):K∉F:=fun q=>by
 rcases h.whr K q with a|⟨k,_,_,a⟩
 ·omega
 ·exact ht k a
def jl (TB:Nat->List Nat) (B i:Nat) (x:Ex) (j:Nat) (v:Value) (w:World):Prop:=∃ u0 u1 F,v=.agg #[.int .i64 x.kind,.int .i64 x.n,.int .i64 x.tk,.int .i64 x.tn,u0,u1]/\ai w x.dat [.int .i64 x.kind,.int .i64 x.n,.int .i64 x.tk,.int .i64 x.tn,u0,u1] F/\aJ TB B i j F
structure Pz (E:ak) (TX:Nat->Value) (TB:Nat->List Nat) (en:Int) (S:List Sc) (K:Nat) (tv sv fv:Value) (w:World) (i:Nat):Prop where
 ps:Ps E TX TB en S K tv sv fv w i
 fit:E.Fit
 nm:E.nm=aQ
 op:OpE w
 gk:5≠K
 tb:BF TB w.heap.size
 kt:∀ k,K∉TB k
theorem Pz.go {E:ak}{TX:Nat->Value}{TB:Nat->List Nat}{en:Int}{S:List Sc}{K:Nat}{tv sv fv:Value}{w w':World}{i j:Nat}(h:Pz E TX TB en S K tv sv fv w i) (o:af K w w') (p:Ps E TX TB en S K tv sv fv w' j):Pz E TX TB en S K tv sv fv w' j :=
 ⟨p,h.fit,h.nm,h.op.only o h.gk,h.gk,h.tb.mono o.size,h.kt⟩
def ExC (f:Nat):Prop:=∀ (E:ak) (TX:Nat->Value) (TB:Nat->List Nat) (en:Int) (S:List Sc) (K:Nat) (tv sv fv:Value) (w:World) (i:Nat),Pz E TX TB en S K tv sv fv w i->4*(E.l.length - i)+3<=f->Calls Tryz.prog 105 #[.pointer (some ⟨K,0,none⟩)] w (PcP E TX TB en S K tv sv fv w (pE E f i) (jl TB w.heap.size i))
theorem yh {f:Nat}(H:ExC f) {E:ak}{TX:Nat->Value}{TB:Nat->List Nat}{en:Int}{S:List Sc}{K:Nat}{tv sv fv:Value}{w:World}{i:Nat}(h:Pz E TX TB en S K tv sv fv w i) (hf:4*(E.l.length - i)+3<=f) {x:Ex}{j:Nat}(q:pE E f i=.ok (x,j)):Calls Tryz.prog 105 #[.pointer (some ⟨K,0,none⟩)] w fun e w'=>∃ u0 u1 F,e=.returned (.agg #[.int .i64 x.kind,.int .i64 x.n,.int .i64 x.tk,.int .i64 x.tn,u0,u1])/\af K w w'/\Pz E TX TB en S K tv sv fv w' j/\ai w' x.dat [.int .i64 x.kind,.int .i64 x.n,.int .i64 x.tk,.int .i64 x.tn,u0,u1] F/\aJ TB w.heap.size i j F :=
 (H E TX TB en S K tv sv fv w i h hf).mono fun _ _ r=>by
  obtain⟨v,e1,p,u0,u1,F,e2,o,fp⟩:=r.well x j q;exact⟨u0,u1,F,by rw[e1,e2],r.only,h.go r.only p,o,fp⟩
theorem Du {f:Nat}(H:ExC f) {E:ak}{TX:Nat->Value}{TB:Nat->List Nat}{en:Int}{S:List Sc}{K:Nat}{tv sv fv:Value}{w:World}{i:Nat}(h:Pz E TX TB en S K tv sv fv w i) (hf:4*(E.l.length - i)+3<=f) {k:Nat}(q:pE E f i=.error k):Calls Tryz.prog 105 #[.pointer (some ⟨K,0,none⟩)] w fun e w'=>e=.panicked [{ v:=.iface 36 (.int .i64 (E.pos en k)),recovered:=false }]/\af K w w' :=
 (H E TX TB en S K tv sv fv w i h hf).mono fun _ _ r=>⟨r.bad k q,r.only⟩
def JL (TB:Nat->List Nat) (B i:Nat) (x:Ex) (j:Nat) (v:Value) (w:World):Prop:=∃ g F,v=.slice (some ⟨g,0,none⟩) 1 1/\ai w (.list 6 [x.dat]) [.slice (some ⟨g,0,none⟩) 1 1] F/\aJ TB B i j F
theorem OA {E:ak}{f i:Nat}(q:E.txt i≠[40]):iH E (f+1) i=.error i:=by rw[iH];unfold aG;rw[if_neg q];rfl
theorem RF {E:ak}{f i:Nat}(q:E.txt i=[40]):iH E (f+1) i=PR.andThen (pE E f (i+1)) fun k i=>PR.andThen (aG E [41] i) fun _ i=>.ok (k,i):=by rw[iH];unfold aG;rw[if_pos q];rfl
theorem iU {w:World}{x:Ex}{u0 u1:Value}{F:List Nat}(h:ai w x.dat [.int .i64 x.kind,.int .i64 x.n,.int .i64 x.tk,.int .i64 x.tn,u0,u1] F):∃ a0 n0 c0 a1 n1 c1,u0=.slice a0 n0 c0/\u1=.slice a1 n1 c1:=by
 obtain⟨kind,n,tk,tn,name,kids⟩:=x;rw[Ex.dat,ai]at h;simp only[aA,ai]at h;obtain⟨c1,c2,F1,F2,e,-,⟨rfl,-⟩,d1,d2,G1,G2,e2,-,⟨rfl,-⟩,d3,d4,G3,G4,e3,-,⟨rfl,-⟩,d5,d6,G5,G6,e4,-,⟨rfl,-⟩,d7,d8,G7,G8,e5,-,⟨a0,p0,rfl,-⟩,d9,d10,G9,G10,e6,-,⟨a1,p1,rfl,-⟩,rfl,-⟩:=h;subst e6 e5 e4 e3 e2;simp only[List.cons_append,List.nil_append,List.cons.injEq]at e;exact⟨_,_,_,_,_,_,e.2.2.2.2.1,e.2.2.2.2.2.1⟩
end Go.Proofs.YtgaddpkkjebekaaGreatDoor
