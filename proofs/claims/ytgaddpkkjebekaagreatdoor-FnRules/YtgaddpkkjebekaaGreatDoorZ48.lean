import Derived.Test.YtgaddpkkjebekaaGreatDoorZ47
set_option maxHeartbeats 100000000
set_option maxRecDepth 100000
namespace Go.Proofs.YtgaddpkkjebekaaGreatDoor
open Go.RowKit Go.Maps
structure Pb (l:List PTk) (TX:Nat->Value) (TB:Nat->List Nat) (K:Nat) (tv:Value) (w0:World):Prop where
 tks:∀ w',af K w0 w'->Tks (aC l []) TX TB tv w'
 op:OpE w0
 gk:5≠K
 tb:BF TB w0.heap.size
 kt:∀ k,K∉TB k
 kl:K<w0.heap.size
structure PA (l:List PTk) (TX:Nat->Value) (TB:Nat->List Nat) (en:Int) (K:Nat) (tv:Value) (w0 w:World) (i:Nat) (S:List Sc) (sv fv:Value) (xs:List Value) (F:List Nat):Prop where
 box:Bxx w K [tv,.int .i64 (i:Int),.int .i64 en,sv,fv]
 only:af K w0 w
 le:i<=l.length
 ss:Bp TB w0.heap.size 0 i w 82 2 sv (Sc.ah S) xs F
 gr:∀ x∈S.map Sc.name,aY x true=true
theorem dX.rd {w:World}{k:Nat}:∀ (l:List Dat) {xs:List Value}{F:List Nat},dX w k l xs F->∀ j (hj:j<l.length),∃ cs,cs.length=k/\(∀ m u,cs[m]?=some u->xs[j*k+m]?=some u)/\RdD w l[j] cs
 | d::r,xs,F,h,j,hj=>by
  obtain⟨cs,ys,F1,F2,rfl,rfl,hk,hd,hr⟩:=h
  cases j with
  | zero=>exact⟨cs,hk,fun m u q=>by rw[Nat.zero_mul,Nat.zero_add,List.getElem?_append_left (List.getElem?_eq_some_iff.1 q).1];exact q,ai.rd _ hd⟩
  | succ j =>
   obtain⟨c2,hk2,hc2,hd2⟩:=dX.rd r hr j (by simpa using hj);exact⟨c2,hk2,fun m u q=>by rw[List.getElem?_append_right (by rw[Nat.succ_mul];omega),show (j+1)*k+m - cs.length=j*k+m by rw[Nat.succ_mul];omega];exact hc2 m u q,hd2⟩
theorem Bp.rd {TB:Nat->List Nat}{B i j:Nat}{w:World}{t:TypeId}{k:Nat}{v:Value}{l:List Dat}{xs:List Value}{F:List Nat}(h:Bp TB B i j w t k v l xs F):RdL w k v l:=by
 rcases h.row.2 with ⟨rfl,e⟩|⟨g,cap,cur,rfl,h1,h2,h3,h4,h5,h6⟩
 ·refine⟨none,0,by rw[e],⟨by omega,by unfold maxLen;omega⟩,fun j hj=>by omega⟩
 ·refine⟨_,cap,rfl,⟨h3,h4⟩,fun j hj=>?_⟩;obtain⟨cs,hk,hc,hd⟩:=dX.rd l h.el j hj;refine⟨g,0,cs,rfl,(h.row.lt g rfl).2,hk,fun m u q=>?_,hd⟩;rw[Nat.zero_add];have hx:=hc m u q;have hl:=(List.getElem?_eq_some_iff.1 hx).1;rw[h.row.cellAt _ (by rw[<-h.row.1];exact hl)];exact hx
theorem Tks.env {l:List PTk}{ns ns':List (List Int)}{TX:Nat->Value}{TB:Nat->List Nat}{tv:Value}{w:World}(h:Tks (aC l ns) TX TB tv w):Tks (aC l ns') TX TB tv w:=⟨h.row,h.few,h.txt⟩
theorem PA.pz {l:List PTk}{TX:Nat->Value}{TB:Nat->List Nat}{en:Int}{K:Nat}{tv:Value}{w0 w:World}{i:Nat}{S:List Sc}{sv fv:Value}{xs:List Value}{F:List Nat}(b:Pb l TX TB K tv w0) (h:PA l TX TB en K tv w0 w i S sv fv xs F):Pz (aC l (S.map Sc.name)) TX TB en S K tv sv fv w i :=
 ⟨⟨h.box,h.le,fun w' o=>(b.tks w' (h.only.trans o)).env,fun _ o=>(h.ss.only o b.kl b.kt).rd,rfl⟩,(Gw h.gr).fit,rfl,b.op.only h.only b.gk,b.gk,b.tb.mono h.only.size,b.kt⟩
theorem PA.go {l:List PTk}{TX:Nat->Value}{TB:Nat->List Nat}{en:Int}{K:Nat}{tv:Value}{w0 w w':World}{i j:Nat}{S:List Sc}{sv fv:Value}{xs:List Value}{F:List Nat}(b:Pb l TX TB K tv w0) (h:PA l TX TB en K tv w0 w i S sv fv xs F) (o:af K w w') (p:Ps (aC l (S.map Sc.name)) TX TB en S K tv sv fv w' j) (hij:i<=j):PA l TX TB en K tv w0 w' j S sv fv xs F :=
 ⟨p.box,h.only.trans o,p.le,(h.ss.only o b.kl b.kt).mono (Nat.le_refl _) hij,h.gr⟩
structure PB (l:List PTk) (TX:Nat->Value) (TB:Nat->List Nat) (en:Int) (K:Nat) (tv:Value) (w0 w:World) (i j:Nat) (S:List Sc) (gs cap:Nat) (u0 fv:Value) (xs:List Value) (F:List Nat):Prop where
 box:Bxx w K [tv,.int .i64 (j:Int),.int .i64 en,.slice (some ⟨gs,0,none⟩) (S.length+1) cap,fv]
 only:af K w0 w
 le:j<=l.length
 row:w.ownsRow w0.heap.size 82 2 (.slice (some ⟨gs,0,none⟩) (S.length+1) cap) (S.length+1) (xs++[u0,.slice none 0 0])
 el:dX w 2 (Sc.ah S) xs F
 fp:aJ TB w0.heap.size 0 i F
 lt:∀ b∈F,b<w.heap.size
 sep:gs∉F
 gr:∀ x∈S.map Sc.name,aY x true=true
 gi:aY ((aC l []).txt i) true=true
 ij:i<j
 tx:TX i=u0
theorem Sc.jU (l:List Sc):Sc.ah l=l.map Sc.dat:=by induction l with|nil=>rw[Sc.ah];rfl|cons x r ih=>rw[Sc.ah,ih];rfl
theorem Sc.gq (ks:List Sc) (x:Sc):Sc.ah (ks++[x])=Sc.ah ks++[x.dat]:=by rw[Sc.jU,Sc.jU,List.map_append];rfl
theorem UT (w:World):ai w (.list 3 (Pa.ah [])) [.slice none 0 0] []:=by rw[Pa.ah];exact jE _ _
theorem Tks.nameOf {l:List PTk}{TX:Nat->Value}{TB:Nat->List Nat}{tv:Value}{w:World}{k:Nat}(h:Tks (aC l []) TX TB tv w) (hk:k<l.length):ai w (.bytes ((aC l []).txt k)) [TX k] (TB k):=by
 have e2:(aC l []).txt k=l[k].2.2.2:=by unfold ak.txt;rw[show (aC l []).l=l from rfl,List.getElem?_eq_getElem hk]
 rw[e2];exact h.txt k hk
theorem PB.with {l:List PTk}{TX:Nat->Value}{TB:Nat->List Nat}{en:Int}{K:Nat}{tv:Value}{w0 w W:World}{i j M:Nat}{S:List Sc}{gs cap:Nat}{u0 u1 fv:Value}{xs:List Value}{F G:List Nat}{ps:List Pa}(b:Pb l TX TB K tv w0) (h:PB l TX TB en K tv w0 w i j S gs cap u0 fv xs F) (oW:af gs w W) (bK:Bxx W K [tv,.int .i64 (j:Int),.int .i64 en,.slice (some ⟨gs,0,none⟩) (S.length+1) cap,fv]) (hrow:W.ownsRow w0.heap.size 82 2 (.slice (some ⟨gs,0,none⟩) (S.length+1) cap) (S.length+1) (xs++[u0,u1])) (ho:ai w (.list 3 (Pa.ah ps)) [u1] G) (hf:aJ TB M (i+1) j G) (hM:∀ b∈F,b<M) (hM0:w0.heap.size<=M) (hg:gs∉G):PA l TX TB en K tv w0 W j (S++[.mk ((aC l []).txt i) ps]) (.slice (some ⟨gs,0,none⟩) (S.length+1) cap) fv (xs++[u0,u1]) (F++(TB i++G)):=by
 have hB:=(h.row.lt gs rfl).1;have hij:=h.ij;have hle:=h.le
 have oK:af K w0 W:=⟨oW.os.trans h.only.os,oW.tape.trans h.only.tape,oW.output.trans h.only.output,Nat.le_trans h.only.size oW.size,fun x hx hn=>by rw[oW.block x (Nat.lt_of_lt_of_le hx h.only.size) (by omega)];exact h.only.block x hx hn⟩
 have hnm:=(b.tks W oK).nameOf (k:=i) (by omega);rw[h.tx]at hnm;have hGl:=ai.lt _ ho
 have fa:aJ TB w0.heap.size 0 j (F++(TB i++G)):=by
  rw[<-List.append_assoc];refine aJ.app b.tb (aJ.app b.tb h.fp hM hM0 ((aJ.text (b.tb.mono hM0) i)) (Nat.le_refl _) (Nat.zero_le _) (Nat.le_succ _)) (fun x q=>?_) hM0 hf (Nat.le_refl _) (Nat.zero_le _) (by omega);rcases List.mem_append.1 q with q|q
  ·exact hM x q
  ·have:=b.tb.lt i x q;omega
 refine⟨bK,oK,h.le,⟨by rw[Sc.az,List.length_append,List.length_singleton];exact hrow,?_,fa,fun x q=>?_,fun x e q=>?_⟩,fun x hx=>?_⟩
 ·rw[Sc.gq];exact dX.snoc (cs:=[u0,u1]) rfl (Sc.own (x:=Sc.mk ((aC l []).txt i) ps) hnm (aI ho oW hg)) _ (dX.agree oW.size _ h.el fun x q=>oW.block x (h.lt x q) (fun e=>h.sep (e ▸ q)))
 ·have:=oW.size;rcases List.mem_append.1 q with q|q
  ·have:=h.lt x q;omega
  ·rcases List.mem_append.1 q with q|q
   ·have:=b.tb.lt i x q;have:=oK.size;omega
   ·have:=hGl x q;omega
 ·have e':gs=x:=Option.some.inj e;subst e';rcases List.mem_append.1 q with q|q
  ·exact h.sep q
  ·rcases List.mem_append.1 q with q|q
   ·have:=b.tb.lt i _ q;omega
   ·exact hg q
 ·rw[List.map_append,List.mem_append]at hx;rcases hx with q|q
  ·exact h.gr x q
  ·simp[Sc.name]at q;rw[q];exact h.gi
theorem PB.pa {l:List PTk}{TX:Nat->Value}{TB:Nat->List Nat}{en:Int}{K:Nat}{tv:Value}{w0 w:World}{i j:Nat}{S:List Sc}{gs cap:Nat}{u0 fv:Value}{xs:List Value}{F:List Nat}(b:Pb l TX TB K tv w0) (h:PB l TX TB en K tv w0 w i j S gs cap u0 fv xs F):PA l TX TB en K tv w0 w j (S++[.mk ((aC l []).txt i) []]) (.slice (some ⟨gs,0,none⟩) (S.length+1) cap) fv (xs++[u0,.slice none 0 0]) (F++(TB i++[])) :=
 h.with b (af.refl _ _) h.box h.row (UT _) (aJ.nil _ _ _ _) h.lt h.only.size (fun q=>by cases q)
theorem PB.go {l:List PTk}{TX:Nat->Value}{TB:Nat->List Nat}{en:Int}{K:Nat}{tv:Value}{w0 w w':World}{i j j':Nat}{S:List Sc}{gs cap:Nat}{u0 fv:Value}{xs:List Value}{F:List Nat}(b:Pb l TX TB K tv w0) (h:PB l TX TB en K tv w0 w i j S gs cap u0 fv xs F) (o:af K w w') (bK:Bxx w' K [tv,.int .i64 (j':Int),.int .i64 en,.slice (some ⟨gs,0,none⟩) (S.length+1) cap,fv]) (hl:j'<=l.length) (hj:j<=j'):PB l TX TB en K tv w0 w' i j' S gs cap u0 fv xs F :=
 ⟨bK,h.only.trans o,hl,cu h.row (iq o b.kl),dX.agree o.size _ h.el fun x q=>o.block x (h.lt x q) (fun e=>h.fp.iy b.kl b.kt (e ▸ q)),h.fp,fun x q=>Nat.lt_of_lt_of_le (h.lt x q) o.size,h.sep,h.gr,h.gi,by have:=h.ij;omega,h.tx⟩
theorem PA.new {l:List PTk}{TX:Nat->Value}{TB:Nat->List Nat}{en:Int}{K:Nat}{tv:Value}{w0 w w2 w3 w4 W:World}{i:Nat}{S:List Sc}{sv u0 fv:Value}{xs:List Value}{F:List Nat}{gs cap:Nat}(b:Pb l TX TB K tv w0) (h:PA l TX TB en K tv w0 w i S sv fv xs F) (o2:af K w w2) (l3:Later w2 w3) (hg:w3.grownBy w4 sv.ownBlock) (ho:w4.ownsRow w0.heap.size 82 2 (.slice (some ⟨gs,0,none⟩) (S.length+1) cap) (S.length+1) (xs++[u0,.slice none 0 0])) (hloc:gs=w3.heap.size\/sv.ownBlock=some gs) (oW:af K w4 W) (bK:Bxx W K [tv,.int .i64 ((i+1:Nat):Int),.int .i64 en,.slice (some ⟨gs,0,none⟩) (S.length+1) cap,fv]) (hi:i<l.length) (gi:aY ((aC l []).txt i) true=true) (tx:TX i=u0):PB l TX TB en K tv w0 W i (i+1) S gs cap u0 fv xs F:=by
 have s2:=o2.size;have s3:=l3.size;have s4:=hg.size;have hrl:=h.ss.row.lt;have o4:af K w0 w4:=kK h.only o2 l3 hg hrl rfl
 have hF:∀ x∈F,w4.heap[x]?=w.heap[x]?:=fun x q=>by
  have:=h.ss.lt x q;rw[hg.block x (by omega) (fun e=>h.ss.sep x e.symm q),l3.block x (by omega),o2.block x (by omega) (fun e=>h.ss.fp.iy b.kl b.kt (e ▸ q))]
 refine⟨bK,o4.trans oW,hi,cu ho (iq oW b.kl),?_,h.ss.fp,fun x q=>?_,fun q=>?_,h.gr,gi,Nat.lt_succ_self _,tx⟩
 ·exact dX.agree oW.size _ (dX.agree (by omega) _ h.ss.el hF) fun x q=>oW.block x (by have:=h.ss.lt x q;omega) (fun e=>h.ss.fp.iy b.kl b.kt (e ▸ q))
 ·have:=h.ss.lt x q;have:=oW.size;omega
 ·rcases hloc with e|e
  ·have:=h.ss.lt gs q;omega
  ·exact h.ss.sep gs e q
def wJ (l:List PTk) (f:Nat) (S:List Sc) (i:Nat):PR Sc :=
 PR.andThen (Aa (aC l (S.map Sc.name)) i) fun _ k=>PR.andThen (aG (aC l []) [115,116,114,117,99,116] k) fun _ k=>PR.andThen (aG (aC l []) [123] k) fun _ k=>PR.andThen (dK (aC l ((S++[Sc.mk ((aC l []).txt i) []]).map Sc.name)) f [] k) fun ps k=>.ok (.mk ((aC l []).txt i) ps,k)
theorem Lp {w:World}{base k n:Nat}{t:TypeId}{v:Value}{xs:List Value}(h:w.ownsRow base t k v (n+1) xs):∃ gs cap,v=.slice (some ⟨gs,0,none⟩) (n+1) cap:=by
 rcases h.2 with ⟨_,e⟩|⟨g,cap,cur,rfl,_⟩
 ·cases e
 ·exact⟨g,cap,rfl⟩
theorem N8 {xs:List Value}{n:Nat}(h:xs.length=n*2) (a b c:Value):(xs++[a,b]).set (n*2+1) c=xs++[a,c]:=by rw[<-h];simp
theorem PX {xs:List Value}{n:Nat}(h:xs.length=n*2) (a b:Value):(xs++[a,b])[n*2+1]?=some b:=by rw[<-h];simp
theorem Vs:Enters Tryz.prog 41:=enters_of Tryz.func41 (by kernel_rfl) (by kernel_rfl)
theorem Fb {E:ak}{g j:Nat}{ks:List Pa}(q:E.txt j=[125]):dK E (g+1) ks j=.ok (ks,j+1):=by rw[dK,if_pos q]
theorem Ih {E:ak}{g j:Nat}{ks:List Pa}(q:E.txt j≠[125]):dK E (g+1) ks j=PR.andThen (dR E j) fun p i=>PR.andThen (aG E [59] i) fun _ i=>dK E g (ks++[p]) i:=by rw[dK,if_neg q]
structure TK (l:List PTk) (TX:Nat->Value) (TB:Nat->List Nat) (en:Int) (K:Nat) (tv:Value) (w0:World) (S:List Sc) (fv:Value) (r:PR Sc) (e:Ending) (w':World):Prop where
 only:af K w0 w'
 well:∀ x j,r=.ok (x,j)->e=.returned (.tuple #[])/\∃ sv xs F,PA l TX TB en K tv w0 w' j (S++[x]) sv fv xs F
 bad:∀ k,r=.error k->e=.panicked [{ v:=.iface 36 (.int .i64 ((aC l []).pos en k)),recovered:=false }]
theorem MQ {f:Nat}(l:List PTk) (TX:Nat->Value) (TB:Nat->List Nat) (en:Int) (K:Nat) (tv:Value) (w0 w:World) (i:Nat) (S:List Sc) (sv fv:Value) (xs:List Value) (F:List Nat) (b:Pb l TX TB K tv w0) (h:PA l TX TB en K tv w0 w i S sv fv xs F) (hS:S.length<=i) (hf:4*(l.length - i)+3<=f):Calls Tryz.prog 17 #[.pointer (some ⟨K,0,none⟩)] w (TK l TX TB en K tv w0 S fv (wJ l f S i)):=by
 have HNo:Hid (∀ k w',wJ l f S i=.error k->af K w0 w'->TK l TX TB en K tv w0 S fv (wJ l f S i) (.panicked [{ v:=.iface 36 (.int .i64 ((aC l []).pos en k)),recovered:=false }]) w'):=fun k w' e o=>⟨o,fun x j q=>(by rw[e]at q;cases q),fun k' q=>(by rw[e]at q;cases q;rfl)⟩
 have HY:Hid (∀ x j w' sv xs F,wJ l f S i=.ok (x,j)->PA l TX TB en K tv w0 w' j (S++[x]) sv fv xs F->TK l TX TB en K tv w0 S fv (wJ l f S i) (.returned (.tuple #[])) w'):=fun x j w' sv xs F e p=>⟨p.only,fun x' j' q=>(by rw[e]at q;cases q;exact⟨rfl,sv,xs,F,p⟩),fun k q=>(by rw[e]at q;cases q)⟩
 generalize hr:wJ l f S i=r at *
 generalize TK l TX TB en K tv w0 S fv r=Q at *
 have HR:Hid _:=hr;clear hr;obtain⟨i0,hi,hz0,hz1,hz2⟩:=info_parts Tryz.PE;obtain⟨j0,hj,hy0,hy1,hy2⟩:=info_parts Tryz.IR;have hz:=h.pz b;have hle:=h.le;have hfew:=(hz.ps.tks w (af.refl _ _)).few;have hfew:l.length<=6000:=hfew;have hrow:=h.ss.row;rw[Sc.az]at hrow;obtain⟨sa,sc,rfl⟩:=aP hrow;have hrl:=hrow.lt;have HRow:Hid (∀ w',af K w w'->w'.ownsRow w0.heap.size 82 2 (.slice sa S.length sc) S.length xs):=fun w' o=>cu hrow (iq o b.kl);have k3:=(h.box.cell 3 _ rfl).1;have kf3:=(h.box.cell 3 _ rfl).2;have kl:=h.box.lt;have hsz:=h.only.size;have hNew:=MR (aC l (S.map Sc.name)) TX TB en S K tv (.slice sa S.length sc) fv
 cases qn:Aa (aC l (S.map Sc.name)) i with
 | error k =>
  have HC:Hid (∀ w',Later w w'->Calls Tryz.prog 41 #[.pointer (some ⟨K,0,none⟩)] w' fun e w2=>e=.panicked [{ v:=.iface 36 (.int .i64 ((aC l []).pos en k)),recovered:=false }]/\af K w w2):=fun w' lt=>(kT (hNew w' i (hz.ps.later lt)) qn).mono fun e w2 q=>⟨q.1,(af.of_later lt).trans q.2⟩
  have HP:Hid (∀ w',af K w w'->Q (.panicked [{ v:=.iface 36 (.int .i64 ((aC l []).pos en k)),recovered:=false }]) w'):=fun w' o=>HNo.out _ w' (by rw[<-HR.out];unfold wJ;rw[qn];rfl) (h.only.trans o);clear HNo HY hNew hz h qn HRow HR
  generalize S.length=n at *
  go_enter Tryz.func17,Tryz.ntmps17;go_wp2_with fail
  refine wp_region_any (by kernel_rfl) ?_;(try (change wpAny _ _ _ _ _ _ _ (World.drew _)));refine wpAny_take (i:=0) (v:=.pointer (some ⟨K,0,none⟩)) rfl (by kernel_rfl) (by kernel_rfl) (by kernel_rfl) (fun _ _ _ h=>h) (Or.inl ⟨by rfl,?_⟩) ?_
  ·intro w9;first|(go_simp;done)|(go_simp;with_reducible rfl)
  refine wpAny_take (i:=1) (v:=.pointer (some ⟨K,0,none⟩)) rfl (by kernel_rfl) (by kernel_rfl) (by kernel_rfl) (fun _ _ _ h=>h) (Or.inl ⟨by rfl,?_⟩) ?_
  ·intro w9;first|(go_simp;done)|(go_simp;with_reducible rfl)
  refine wpAny_take (i:=6) (v:=.pointer (some ⟨K,0,none⟩)) rfl (by kernel_rfl) (by kernel_rfl) (by kernel_rfl) (fun _ _ _ h=>h) (Or.inl ⟨by rfl,?_⟩) ?_
  ·intro w9;first|(go_simp;done)|(go_simp;with_reducible rfl)
  refine wpAny_take (i:=2) (v:=.pointer (some ⟨K,0,none⟩)) rfl (by kernel_rfl) (by kernel_rfl) (by kernel_rfl) (fun _ _ _ h=>h) (Or.inl ⟨by rfl,?_⟩) ?_
  ·intro w9;first|(go_simp;done)|(go_simp;with_reducible rfl)
  refine wpAny_take (i:=3) (v:=.pointer (some ⟨K,3,none⟩)) rfl (by kernel_rfl) (by kernel_rfl) (by kernel_rfl) (fun _ _ _ h=>h) (Or.inl ⟨by rfl,?_⟩) ?_
  ·intro w9;first|(go_simp;done)|(go_simp;with_reducible rfl)
  refine wpAny_take (i:=4) (v:=.pointer (some ⟨K,3,none⟩)) rfl (by kernel_rfl) (by kernel_rfl) (by kernel_rfl) (fun _ _ _ h=>h) (Or.inl ⟨by rfl,?_⟩) ?_
  ·intro w9;first|(go_simp;done)|(go_simp;with_reducible rfl)
  refine wpAny_ready (rs:=[5,7]) (by kernel_rfl) (List.cons_ne_nil _ _) ?_;refine (AllReady.cons rfl (fun KK hKK=>?_) (AllReady.cons rfl (fun KK hKK=>?_) AllReady.nil))
  ·go_simp;refine hKK _ _ ?_;clear hKK KK;refine wpAny_ready (rs:=[7]) (by kernel_rfl) (List.cons_ne_nil _ _) ?_;refine (AllReady.cons rfl (fun KK hKK=>?_) AllReady.nil);go_simp;go_wp2_with (go_at_call 41;refine (HC.out _ ?hl).mono ?_;(case hl=>(first|exact Later.drew _|exact (Later.drew _).trans (ae _ _)|exact (ae _ _).trans (Later.drew _)));rintro e w2 ⟨rfl,o2⟩)
   exact⟨rfl,HP.out w2 o2⟩
  ·go_simp;go_wp2_with (go_at_call 41;refine (HC.out _ ?hl).mono ?_;(case hl=>(first|exact Later.drew _|exact (Later.drew _).trans (ae _ _)|exact (ae _ _).trans (Later.drew _)));rintro e w2 ⟨rfl,o2⟩)
   exact⟨rfl,HP.out w2 o2⟩
 | ok y =>
  obtain⟨nmx,j⟩:=y
  obtain⟨hq,rfl⟩:(aY ((aC l []).txt i) true=true/\(aC l []).txt i∉S.map Sc.name)/\j=i+1:=by
   unfold Aa at qn;split at qn
   ·next q=>cases qn;exact⟨q,rfl⟩
   ·cases qn
  have hil:i<l.length:=ak.aX (E:=aC l []) (i:=i) (fun e=>by have:=hq.1;rw[e]at this;revert this;decide);obtain⟨xa,xc,hx⟩:=jb ((b.tks w0 (af.refl _ _)).nameOf hil)
  have HC:Hid (∀ w',Later w w'->Calls Tryz.prog 41 #[.pointer (some ⟨K,0,none⟩)] w' fun e w2=>∃ v,e=.returned v/\(v=.slice xa ((aC l []).txt i).length xc/\af K w w2/\Ps (aC l (S.map Sc.name)) TX TB en S K tv (.slice sa S.length sc) fv w2 (i+1))):=fun w' lt=>(hNew w' i (hz.ps.later lt)).mono fun e w2 q=>by
   obtain⟨v,e1,p,e2⟩:=q.well _ _ qn;exact⟨v,e1,by rw[e2,hx],(af.of_later lt).trans q.only,p⟩
  have HK:Hid (∀ w2 wz w4,af K w w2->Ps (aC l (S.map Sc.name)) TX TB en S K tv (.slice sa S.length sc) fv w2 (i+1)->Later w2 wz->wz.grownBy w4 (Value.slice sa S.length sc).ownBlock->Bxx w4 K [tv,.int .i64 ((i+1:Nat):Int),.int .i64 en,.slice sa S.length sc,fv]):=fun w2 wz w4 o2 p2 lz hg=>by
   have hb:=p2.box.later lz;exact hb.kept hg.size (hg.block K hb.lt fun e=>by have:=(hrl K e.symm).1;have:=b.kl;omega)
  have HW:Hid (∀ w2 wz w4 gs cap,af K w w2->Ps (aC l (S.map Sc.name)) TX TB en S K tv (.slice sa S.length sc) fv w2 (i+1)->Later w2 wz->wz.grownBy w4 (Value.slice sa S.length sc).ownBlock->w4.ownsRow w0.heap.size 82 2 (.slice (some ⟨gs,0,none⟩) (S.length+1) cap) (S.length+1) (xs++[.slice xa ((aC l []).txt i).length xc,.slice none 0 0])->((Value.slice (some ⟨gs,0,none⟩) (S.length+1) cap).ownBlock=(Value.slice sa S.length sc).ownBlock\/(Value.slice (some ⟨gs,0,none⟩) (S.length+1) cap).ownBlock=some wz.heap.size)->PB l TX TB en K tv w0 (w4.setCell ⟨K,3,none⟩ (.slice (some ⟨gs,0,none⟩) (S.length+1) cap)) i (i+1) S gs cap (.slice xa ((aC l []).txt i).length xc) fv xs F):=fun w2 wz w4 gs cap o2 p2 lz hg ho hloc =>
   h.new b o2 lz hg ho (hloc.elim (fun e=>.inr e.symm) (fun e=>.inl (Option.some.inj e))) ((af.refl K w4).set 3 _) ((HK.out w2 wz w4 o2 p2 lz hg).set 3 _ (by simp)) hil hq.1 hx
  have HR2:Hid ((PR.andThen (aG (aC l []) [115,116,114,117,99,116] (i+1)) fun _ k=>PR.andThen (aG (aC l []) [123] k) fun _ k=>PR.andThen (dK (aC l ((S++[Sc.mk ((aC l []).txt i) []]).map Sc.name)) f [] k) fun ps k=>.ok (Sc.mk ((aC l []).txt i) ps,k))=r):=by
   have:=HR.out;unfold wJ at this;rw[qn]at this;exact this
  obtain⟨xn,hxn⟩:=hidx ((aC l []).txt i).length;rw[<-hxn.out]at HC HW;have hSi:S.length<=6000:=by omega
  have HB0:Hid (∀ w',Later w w'->w'.cell? ⟨K,3,none⟩=some (.slice sa S.length sc)):=fun w' lt=>((h.box.later lt).cell 3 _ rfl).1;have HB3:Hid (∀ w2,Ps (aC l (S.map Sc.name)) TX TB en S K tv (.slice sa S.length sc) fv w2 (i+1)->w2.cell? ⟨K,3,none⟩=some (.slice sa S.length sc)):=fun w2 p=>(p.box.cell 3 _ rfl).1;clear hNew hz h qn HR hx
  generalize hn:S.length=n at *
  have HnS:Hid _:=hn;clear hn;go_enter Tryz.func17,Tryz.ntmps17;go_upto_region 1 with fail
  go_cut [2] from 10 (fun s2 wx=>s2=.int .i64 (n:Int)/\∃ gs cap,PB l TX TB en K tv w0 wx i (i+1) S gs cap (.slice xa xn xc) fv xs F)
  case first =>
   go_region_law (first
    | (refine eG rfl 41 Vs _ _ rfl [.pointer (some ⟨K,0,none⟩)] rfl (fun v w'=>v=.slice xa xn xc/\af K w w'/\Ps (aC l (S.map Sc.name)) TX TB en S K tv (.slice sa n sc) fv w' (i+1)) (HC.out _ (Later.drew _)) ?_;intro u3 w3 hc3;obtain⟨rfl,o3,p3⟩:=hc3;obtain⟨k33,kf33⟩:=p3.box.cell 3 _ rfl;have kl3:=p3.box.lt)
    | (refine gQ rfl _ _ 25 rfl w0.heap.size 82 i0 (.agg #[.slice none 0 0,.slice none 0 0]) 2 48 Tryz.underlying25 hi hz0 hz1 hz2 rfl (by decide) _ _ _ rfl ((HRow.out _ o3).alloc _) _ 1 1 [.slice xa xn xc,.slice none 0 0] rfl rfl (fA _ _ _ rfl) (by simp[Value.oneCell']) (by unfold maxLen;omega) (by omega) (Nat.le_trans hsz (Nat.le_trans o3.size (ae _ _).size)) ?_;intro v4 w4 o4 g4 h4;obtain⟨gs,p4,rfl⟩:=Lp o4;have hk4:=HK.out _ _ _ o3 p3 (ae _ _) g4;obtain⟨k34,kf34⟩:=hk4.cell 3 _ rfl;have kl4:=hk4.lt;have HPB:=HW.out _ _ _ _ _ o3 p3 (ae _ _) g4 o4 h4))
   all_goals
    go_wp2_with fail
    go_meet
    case rel=>exact⟨rfl,gs,p4,HPB⟩
  case rest =>
   obtain⟨rfl,gs,cap,hP⟩:=hcut;clear HC HK HW HB0 HB3 HRow k3 kf3 kl;have hp1:=(hP.pa b).pz b;go_wp2_with fail
   by_cases q1:(aC l []).txt (i+1)=[115,116,114,117,99,116]
   ·have hil1:i+1<l.length:=ak.aX (E:=aC l []) (i:=i+1) (by rw[q1];decide);refine (df hp1.ps _ _ Ah (by decide) q1).mono ?_;rintro e w2 ⟨rfl,o2,p2⟩;have hP2:=hP.go b o2 p2.box p2.le (Nat.le_succ _);have hp2:=(hP2.pa b).pz b;go_wp2_with fail
    by_cases q2:(aC l []).txt (i+1+1)=[123]
    ·have hil2:i+1+1<l.length:=ak.aX (E:=aC l []) (i:=i+1+1) (by rw[q2];decide);refine (df hp2.ps _ _ Ak (by decide) q2).mono ?_;rintro e w5 ⟨rfl,o5,p5⟩;have hP5:=hP2.go b o5 p5.box p5.le (Nat.le_succ _)
     have HA:Hid ((PR.andThen (dK (aC l ((S++[Sc.mk ((aC l []).txt i) []]).map Sc.name)) f [] (i+1+1+1)) fun ps k=>.ok (Sc.mk ((aC l []).txt i) ps,k))=r/\f<=f/\4*(l.length - (i+1+1+1))+3<=f/\([]:List Pa).length<=i+1+1+1/\i+1+1+1<=i+1+1+1):=⟨by rw[<-HR2.out];unfold aG;rw[if_pos q1];show _=PR.andThen (if (aC l []).txt (i+1+1)=[123] then _ else _) _;rw[if_pos q2];rfl,Nat.le_refl _,by omega,by simp,by omega⟩
     have hM:∀ b∈F,b<w5.heap.size:=hP5.lt;have hgs:=hP5.row.lt gs rfl;have hK5:K<w5.heap.size:=hP5.box.lt;have hs5:=hP5.only.size;have hkl:=b.kl;clear hP2 hp2 hP hp1 HR2 p5 p2 o2 o5;go_wp2_with fail
     go_loopw [3] (fun rr wr=>∃ (g j:Nat) (ps:List Pa) (ys:List Value) (G:List Nat) (rv:Value),rv=rr/\af K w5 wr/\PB l TX TB en K tv w0 wr i j S gs cap (.slice xa xn xc) fv xs F/\Bp TB w5.heap.size (i+1) j wr 75 3 rv (Pa.ah ps) ys G/\Hid ((PR.andThen (dK (aC l ((S++[Sc.mk ((aC l []).txt i) []]).map Sc.name)) g ps j) fun ps k=>.ok (Sc.mk ((aC l []).txt i) ps,k))=r/\g<=f/\4*(l.length - j)+3<=g/\ps.length<=j/\i+1+1+1<=j)) (fun _ wr=>l.length - nxt K wr)
     case atStart=>exact⟨f,i+1+1+1,[],[],[],_,rfl,af.refl _ _,hP5,by rw[Pa.ah];exact Bp.nil _ _ _ _ _ _ _,HA⟩
     case round =>
      clear HA;obtain⟨g,j',ps,ys,G,rv,rfl,oR,hR,hB,HRd⟩:=hrel
      obtain⟨g,rfl⟩:∃ g',g=g'+1:=⟨g - 1,by have:=HRd.out;omega⟩
      have hrow:=hB.row;obtain⟨m,hm⟩:=hidx (Pa.ah ps).length;rw[<-hm.out]at hrow;have hnk:m=ps.length:=by rw[hm.out,Pa.az]
      have hHR:=HRd.out;have hjl:=hR.le;obtain⟨ra,rc,rfl⟩:=aP hrow;have hlt:=hrow.lt;have hn6:m<=6000:=by omega
      have HG:Hid _:=hnk
      have HE:Hid ((PR.andThen (dK (aC l ((S++[Sc.mk ((aC l []).txt i) []]).map Sc.name)) (g+1) ps j') fun ps k=>.ok (Sc.mk ((aC l []).txt i) ps,k))=r/\g+1<=f/\4*(l.length - j')+3<=g+1):=⟨hHR.1,hHR.2.1,hHR.2.2.1⟩
      have HKj:Hid (ps.length<=j'):=hHR.2.2.2.1;have hij:=hHR.2.2.2.2;have hz:=(hR.pa b).pz b;have o0R:=hR.only;clear HRd hHR hnk;go_wp2_with fail
      by_cases q4:(aC l []).txt j'=[125]
      ·refine (bG hz.ps _ _ Ea (by decide) q4).mono ?_;rintro e w4 ⟨rfl,o4,p4⟩;have hR4:=hR.go b o4 p4.box p4.le (Nat.le_succ _);obtain⟨D,hD1,hD2⟩:=(hB.only o4 hK5 b.kt).done (by rw[Pa.az];have:=HG.out;omega)
       have hgD:gs∉D:=fun q=>by
        rcases hD2.whr _ q with a|⟨k,_,_,a⟩
        ·omega
        ·have:=b.tb.lt k _ a;omega
       have hrow4:=hR4.row;have hst:=hrow4.stored (S.length*2+1) (.slice ra m rc);have hxl:xs.length=S.length*2:=by have:=hrow4.1;simp at this;omega
       rw[N8 hxl]at hst;have hgk:K≠gs:=by omega
       have HZ:=HY.out (Sc.mk ((aC l []).txt i) ps) (j'+1) (w4.setCell ⟨gs,S.length*2+1,none⟩ (.slice ra m rc)) _ _ _ (by rw[<-HE.out.1];rw[Fb (E:=(aC l ((S++[Sc.mk ((aC l []).txt i) []]).map Sc.name))) q4];rfl) (hR4.with (u1:=.slice ra m rc) (ps:=ps) (G:=D) (M:=w5.heap.size) b ((af.refl gs w4).set _ _) (hR4.box.other hgk _) hst.1 hD1 (hD2.mono (Nat.le_refl _) (Nat.le_refl _) (Nat.le_succ _)) hM hs5 hgD);have k3:=(hR4.box.cell 3 _ rfl).1;have kl4:=hR4.box.lt;have hcg:=hrow4.cellAt (S.length*2+1) (by omega)
       have hcg2:w4.cell? ⟨gs,S.length*2+1,none⟩=some (.slice none 0 0):=by
        rw[hcg];exact PX hxl _ _
       have hfg:=hrow4.frozenAt (S.length*2+1);have hgl:=(hrow4.lt gs rfl).2;rw[HnS.out]at k3 hcg2 hfg HZ;clear hcg hst hxl hD1 hD2 hB HE hR4 hrow4 HY HNo hR hP5;go_wp2_with fail
       go_end0;exact HZ
      ·refine (bT hz.ps _ _ Ea (by decide) q4).mono ?_;rintro e w4 ⟨rfl,o4,p4⟩;have hR4:=hR.go b o4 p4.box p4.le (Nat.le_refl _);have hz4:=(hR4.pa b).pz b;have hin:(PR.andThen (PR.andThen (dR (aC l ((S++[Sc.mk ((aC l []).txt i) []]).map Sc.name)) j') fun p i1=>PR.andThen (aG (aC l ((S++[Sc.mk ((aC l []).txt i) []]).map Sc.name)) [59] i1) fun _ i2=>dK (aC l ((S++[Sc.mk ((aC l []).txt i) []]).map Sc.name)) g (ps++[p]) i2) fun ps k=>.ok (Sc.mk ((aC l []).txt i) ps,k))=r:=by rw[<-HE.out.1,Ih (E:=(aC l ((S++[Sc.mk ((aC l []).txt i) []]).map Sc.name))) q4]
       have hgf:g<=f/\4*(l.length - j')+3<=g+1:=by have:=HE.out.2;omega
       clear HE;go_wp2_with fail
       cases q6:dR (aC l ((S++[Sc.mk ((aC l []).txt i) []]).map Sc.name)) j' with
       | error k =>
        refine (Om hz4 q6).mono ?_;rintro e w6 ⟨rfl,o6⟩;have HZ:=HNo.out _ w6 (by rw[<-hin,q6];rfl) (hR4.only.trans o6);go_wp2_with fail
        exact⟨rfl,HZ⟩
       | ok y =>
        obtain⟨x,j2⟩:=y;refine (Ib hz4 q6).mono ?_;rintro e w6 ⟨ya,yn,yc,rfl,o6,h6,ho6,fp6⟩;obtain⟨D,hD⟩:=hidx (TB j');rw[<-hD.out]at ho6 fp6;have hadv:j'<j2/\j2<=l.length:=iR hz4.fit q6;have oo:=o4.trans o6;have hin2:(PR.andThen (PR.andThen (aG (aC l ((S++[Sc.mk ((aC l []).txt i) []]).map Sc.name)) [59] j2) fun _ i2=>dK (aC l ((S++[Sc.mk ((aC l []).txt i) []]).map Sc.name)) g (ps++[x]) i2) fun ps k=>.ok (Sc.mk ((aC l []).txt i) ps,k))=r:=by rw[<-hin,q6];rfl
        have HPU:Hid (∀ w' v',w'.ownsRow w5.heap.size 75 3 v' (m+1) (ys++[.slice ya yn yc,.int .i64 x.tk,.int .i64 x.tn])->∀ wz,Later w6 wz->wz.grownBy w' (Value.slice ra m rc).ownBlock->(v'.ownBlock=(Value.slice ra m rc).ownBlock\/v'.ownBlock=some wz.heap.size)->af K w5 w'/\PB l TX TB en K tv w0 w' i j2 S gs cap (.slice xa xn xc) fv xs F/\Bp TB w5.heap.size (i+1) j2 w' 75 3 v' (Pa.ah (ps++[x])) (ys++[.slice ya yn yc,.int .i64 x.tk,.int .i64 x.tn]) (G++D)):=fun w' v' ho wz lz hg hloc=>by
         have oK:=kK oR oo lz hg hlt rfl;have hbz:=h6.ps.box.later lz;refine⟨oK,hP5.go b oK (hbz.kept hg.size (hg.block K hbz.lt fun e=>by have:=(hlt K e.symm).1;omega)) h6.ps.le (by omega),?_⟩;rw[Pa.gq];exact hB.push (b.tb.mono hs5) rfl oo hK5 b.kt oR.size ho6 (fp6.mono o4.size (Nat.le_refl _) (Nat.le_refl _)) lz (Nat.le_refl _) (by omega) (by omega) (by rw[<-hm.out];exact ho) hg hloc
        have hrA:w6.ownsRow w5.heap.size 75 3 (.slice ra m rc) m ys:=cu hrow (iq oo hK5);have bA:w5.heap.size<=w6.heap.size:=(oR.trans oo).size;have HM:Hid (nxt K wr=j'):=hz.ps.nxt;clear hin q6 ho6 fp6 p4 q4 o6 o4 hR4 hz4 hz hR h6;go_wp2_with (at_builtin;refine wpList_append_own_at _ rfl _ _ 50 rfl w5.heap.size 75 j0 (.agg #[.slice none 0 0,.int .i64 0,.int .i64 0]) 3 40 Tryz.underlying50 hj hy0 hy1 hy2 rfl (by decide) _ _ _ rfl (hrA.alloc _) _ 1 1 [.slice ya yn yc,.int .i64 x.tk,.int .i64 x.tn] rfl rfl (fA _ _ _ (by simp)) (by simp[Value.oneCell']) (by unfold maxLen;omega) (by omega) (Nat.le_trans bA (ae _ _).size) ?_;intro v9 w9 o9 g9 _ h9;obtain⟨L9,P9,B9⟩:=HPU.out _ _ o9 _ (ae _ _) g9 h9;obtain⟨a9,p9,hv9⟩:=aP o9;rw[hv9]at B9 o9 ⊢)
        have hz9:=(P9.pa b).pz b;by_cases q7:(aC l []).txt j2=[59]
        ·have hil7:j2<l.length:=ak.aX (E:=aC l []) (i:=j2) (by rw[q7];decide);refine (df hz9.ps _ _ lh (by decide) q7).mono ?_;rintro e w8 ⟨rfl,o8,p8⟩;have P8:=P9.go b o8 p8.box p8.le (Nat.le_succ _);have B8:=(B9.only o8 hK5 b.kt).mono (Nat.le_refl _) (Nat.le_succ j2)
         have H8:Hid ((PR.andThen (dK (aC l ((S++[Sc.mk ((aC l []).txt i) []]).map Sc.name)) g (ps++[x]) (j2+1)) fun ps k=>.ok (Sc.mk ((aC l []).txt i) ps,k))=r/\g<=f/\4*(l.length - (j2+1))+3<=g/\(ps++[x]).length<=j2+1/\i+1+1+1<=j2+1):=⟨by rw[<-hin2];unfold aG;rw[if_pos (show ((aC l ((S++[Sc.mk ((aC l []).txt i) []]).map Sc.name))).txt j2=[59] from q7)];rfl,hgf.1,by omega,by have:=HKj.out;simp;omega,by omega⟩
         have hl8:j2+1<=l.length:=p8.le;clear hin2 HPU hrA;go_wp2_with fail
         go_roundw
         case rel=>exact⟨g,j2+1,ps++[x],_,_,_,rfl,L9.trans o8,P8,B8,H8⟩
         case measure =>
          rw[p8.nxt,HM.out];omega
        ·refine (dN hz9.ps _ _ lh (by decide) q7).mono ?_;rintro e w8 ⟨rfl,o8⟩;have HZ:=HNo.out _ w8 (by rw[<-hin2];unfold aG;rw[if_neg (show ¬ ((aC l ((S++[Sc.mk ((aC l []).txt i) []]).map Sc.name))).txt j2=[59] from q7)];rfl) (P9.only.trans o8);go_wp2_with fail
         exact⟨rfl,HZ⟩
    ·refine (dN hp2.ps _ _ Ak (by decide) q2).mono ?_;rintro e w3 ⟨rfl,o3⟩;have HZ:=HNo.out _ w3 (by rw[<-HR2.out];unfold aG;rw[if_pos q1];show PR.andThen (if (aC l []).txt (i+1+1)=[123] then _ else _) _=_;rw[if_neg q2];rfl) (hP2.only.trans o3);go_wp2_with fail
     exact⟨rfl,HZ⟩
   ·refine (dN hp1.ps _ _ Ah (by decide) q1).mono ?_;rintro e w3 ⟨rfl,o3⟩;have HZ:=HNo.out _ w3 (by rw[<-HR2.out];unfold aG;rw[if_neg q1];rfl) (hP.only.trans o3);go_wp2_with fail
    exact⟨rfl,HZ⟩
end Go.Proofs.YtgaddpkkjebekaaGreatDoor
