import Derived.Test.YtgholpilmdebmaaGreatDoorZ19
set_option maxHeartbeats 100000000
set_option maxRecDepth 100000
namespace Go.Proofs.YtgholpilmdebmaaGreatDoor
open Go.RowKit Go.Maps
structure Dx where
 B:Nat
 K:Nat
 G:Nat
 a:Option Addr
 len:Nat
 cap:Nat
structure Gv where
 sv:Value
 fv:Value
 nv:Value
 tv:Value
 xv:Value
 n:Nat
 ss:List Sc
 fs:List Fu
 rk:Int
 rn:Int
def SsOk (ss:List Sc):Prop:=ss.length≤1000∧∀ j (h:j<ss.length),0<ss[j].fields.length∧ss[j].fields.length≤1000∧∀ i (h2:i<ss[j].fields.length),InR ss[j].fields[i].tn
def FsOk (fs:List Fu):Prop:=fs.length≤1000∧∀ j (h:j<fs.length),InR fs[j].rn∧St.goods fs[j].body∧fs[j].params.length≤1000∧∀ i (h2:i<fs[j].params.length),InR fs[j].params[i].tn
def tyCells (l:List (Int × Int)):List Value:=l.flatMap fun p=>[.int .i64 p.1,.int .i64 p.2]
theorem tyCells_len (l:List (Int × Int)):(tyCells l).length=l.length*2:=by
 induction l with
 | nil=>rfl
 | cons p r ih =>
  have e:tyCells (p::r)=[.int .i64 p.1,.int .i64 p.2]++tyCells r:=rfl;rw[e,List.length_append,ih];simp only[List.length_cons,List.length_nil];omega
theorem tyCells_at:∀ (l:List (Int × Int)) (j:Nat) (h:j<l.length),(tyCells l)[j*2]?=some (.int .i64 l[j].1)∧(tyCells l)[j*2+1]?=some (.int .i64 l[j].2)
 | p::r,0,_=>⟨rfl,rfl⟩
 | p::r,j+1,h=>by
  have:=tyCells_at r j (by simpa using h);have e:tyCells (p::r)=[.int .i64 p.1,.int .i64 p.2]++tyCells r:=rfl;rw[e,List.getElem?_append_right (by simp;omega),List.getElem?_append_right (by simp;omega)];simp only[List.length_cons,List.length_nil];rw[show (j+1)*2 - (0+1+1)=j*2 by omega,show (j+1)*2+1 - (0+1+1)=j*2+1 by omega];exact this
structure Gs (c:Dx) (g:GS) (w:World) (v:Gv):Prop where
 ok:g.Ok w
 cur:Cur c.B c.K c.a c.len c.cap w
 dK:g.D c.K
 dG:g.D c.G
 kg:c.K<c.G
 box:∃ nx lf:Int,Bxx w c.G [.pointer (some ⟨c.K,0,none⟩),v.sv,v.fv,v.nv,v.tv,v.xv,.int .i64 nx,.int .i64 lf,.int .i64 v.rk,.int .i64 v.rn]
 ss:RdL (mask g w) 2 v.sv (Sc.dats v.ss)
 sok:SsOk v.ss
 fs:∃ xs,w.ownsRow (c.G+1) 73 5 v.fv v.fs.length xs∧ElS (mask g w) 5 (Fu.dats v.fs) xs
 fok:FsOk v.fs
 nm:∃ xs,w.ownsRow (c.G+1) 22 1 v.nv v.n xs∧∀ u∈xs,NmS (mask g w) u
 ty:∃ l:List (Int × Int),l.length=v.n∧w.ownsRow (c.G+1) 67 2 v.tv v.n (tyCells l)∧∀ p∈l,InR p.2
 fx:∃ l:List Bool,w.ownsRow (c.G+1) 4 1 v.xv v.n (l.map Value.bool)
 df:∀ b,v.fv.ownBlock=some b→g.D b
 dn:∀ b,v.nv.ownBlock=some b→g.D b
 dt:∀ b,v.tv.ownBlock=some b→g.D b
 dx:∀ b,v.xv.ownBlock=some b→g.D b
 few:v.n≤1000000
 rr:InR v.rn
theorem Gs.turn {c:Dx}{g:GS}{w w':World}{v:Gv}(h:Gs c g w v) (hs:w.heap.size≤w'.heap.size) (hb:∀ b,b<w.heap.size→g.S b∨(g.D b∧c.G+1≤b)→w'.heap[b]?=w.heap[b]?) (hc:Cur c.B c.K c.a c.len c.cap w') (hx:∃ nx lf:Int,Bxx w' c.G [.pointer (some ⟨c.K,0,none⟩),v.sv,v.fv,v.nv,v.tv,v.xv,.int .i64 nx,.int .i64 lf,.int .i64 v.rk,.int .i64 v.rn]):Gs c g w' v:=by
 have ov:Sub (mask g w) (mask g w'):=(show Ov g w g w' from ⟨hs,fun _ q=>q,fun b q=>hb b (h.ok.s b q) (.inl q)⟩).sub;have hr:∀ {t:TypeId}{k:Nat}{u:Value}{n:Nat}{xs:List Value},w.ownsRow (c.G+1) t k u n xs→(∀ b,u.ownBlock=some b→g.D b)→w'.ownsRow (c.G+1) t k u n xs:=fun o d=>zay o fun b e=>hb b (o.lt b e).2 (.inr ⟨d b e,(o.lt b e).1⟩);obtain⟨xf,f1,f2⟩:=h.fs;obtain⟨xn,n1,n2⟩:=h.nm;obtain⟨lt,t0,t1,t2⟩:=h.ty;obtain⟨lx,x1⟩:=h.fx;exact⟨h.ok.later hs,hc,h.dK,h.dG,h.kg,hx,h.ss.sub ov,h.sok,⟨xf,hr f1 h.df,ElS.sub ov _ f2⟩,h.fok,⟨xn,hr n1 h.dn,fun u q=>(n2 u q).sub ov⟩,⟨lt,t0,hr t1 h.dt,t2⟩,⟨lx,hr x1 h.dx⟩,h.df,h.dn,h.dt,h.dx,h.few,h.rr⟩
theorem Gs.later {c:Dx}{g:GS}{w w':World}{v:Gv}(h:Gs c g w v) (l:Later w w'):Gs c g w' v:=by
 obtain⟨nx,lf,hx⟩:=h.box;exact h.turn l.size (fun b hb _=>l.block b hb) (h.cur.later (Below.mono l (by have:=h.cur.hK;omega))) ⟨nx,lf,hx.later l⟩
theorem Gs.curs {c:Dx}{g:GS}{w w':World}{v:Gv}(h:Gs c g w v) (o:OnlyK c.K w w') (hc:Cur c.B c.K c.a c.len c.cap w'):Gs c g w' v:=by
 have:=h.kg;obtain⟨nx,lf,hx⟩:=h.box;exact h.turn o.size (fun b hb q=>o.block b hb fun e=>by rcases q with q|q;(exact h.ok.a b q (e ▸ h.dK));omega) hc ⟨nx,lf,hx.only o (by omega)⟩
theorem Gs.own {c:Dx}{g:GS}{w w':World}{v:Gv}(h:Gs c g w v) {b:Nat}(o:OnlyK b w w') (hS:¬ g.S b) (hD:¬ g.D b) (hG:c.G<b):Gs c g w' v:=by
 obtain⟨nx,lf,hx⟩:=h.box;have hkg:=h.kg;have hB:=h.cur.hB;have hk:=h.cur.hK;refine h.turn o.size (fun x hb q=>o.block x hb fun e=>by subst e;rcases q with q|q;(exact hS q);exact hD q.1) ?_ ⟨nx,lf,hx.only o (by omega)⟩;have hn:c.K≠b:=by omega
 refine⟨?_,?_,?_,?_,?_,hB,Nat.lt_of_lt_of_le hk o.size,h.cur.hl,fun j hj=>?_⟩
 ·rw[World.cell?_of_block (o.block c.K hk hn)];exact h.cur.c0
 ·rw[World.cell?_of_block (o.block c.K hk hn)];exact h.cur.c1
 ·rw[World.cell?_of_block (o.block c.K hk hn)];exact h.cur.c2
 ·rw[World.frozen?_of_block (o.block c.K hk hn)];exact h.cur.f1
 ·rw[World.frozen?_of_block (o.block c.K hk hn)];exact h.cur.f2
 ·obtain⟨bx,off,u,e1,e2,e3,e4⟩:=h.cur.bs j hj;exact⟨bx,off,u,e1,e2,by rw[World.cell?_of_block (o.block bx (by omega) (show bx≠b by omega))];exact e3,e4⟩
theorem Gs.seal {c:Dx}{g:GS}{w:World}{v:Gv}(h:Gs c g w v) {b:Nat}(hb:b<w.heap.size) (hd:¬ g.D b):Gs c (g.seal b) w v:=by
 have ov:=(Ov.seal g w b).sub;obtain⟨xf,f1,f2⟩:=h.fs;obtain⟨xn,n1,n2⟩:=h.nm;exact⟨h.ok.seal hb hd,h.cur,h.dK,h.dG,h.kg,h.box,h.ss.sub ov,h.sok,⟨xf,f1,ElS.sub ov _ f2⟩,h.fok,⟨xn,n1,fun u q=>(n2 u q).sub ov⟩,h.ty,h.fx,h.df,h.dn,h.dt,h.dx,h.few,h.rr⟩
theorem Gs.new {c:Dx}{g:GS}{w:World}{v:Gv}(h:Gs c g w v):¬ g.S w.heap.size∧¬ g.D w.heap.size∧c.G<w.heap.size:=⟨fun q=>by have:=h.ok.s _ q;omega,fun q=>by have:=h.ok.d _ q;omega,by have:=h.ok.d _ h.dG;omega⟩
structure Lb (c:Dx) (g:GS) (w:World) (b:Nat) (cs:List Value):Prop where
 bx:Bxx w b cs
 s:¬ g.S b
 d:¬ g.D b
 hi:c.G<b
theorem Lb.stp {c:Dx}{g g':GS}{w w':World}{b:Nat}{cs:List Value}(h:Lb c g w b cs) (t:Stp g w g' w'):Lb c g' w' b cs:=⟨h.bx.kept t.size (t.block b h.bx.lt h.d),fun q=>h.s (t.s' b h.bx.lt q),fun q=>h.d (t.d' b h.bx.lt q),h.hi⟩
theorem Lb.later {c:Dx}{g:GS}{w w':World}{b:Nat}{cs:List Value}(h:Lb c g w b cs) (l:Later w w'):Lb c g w' b cs:=h.stp ((Stp.refl g w).later l)
theorem Lb.only {c:Dx}{g:GS}{w w':World}{b b':Nat}{cs:List Value}(h:Lb c g w b cs) (o:OnlyK b' w w') (hb:b≠b'):Lb c g w' b cs:=⟨h.bx.only o hb,h.s,h.d,h.hi⟩
theorem Lb.seal {c:Dx}{g:GS}{w:World}{b b':Nat}{cs:List Value}(h:Lb c g w b cs) (hb:b≠b'):Lb c (g.seal b') w b cs:=⟨h.bx,fun q=>((g.sealed b' b).1 q).elim h.s hb,h.d,h.hi⟩
theorem Lb.new {c:Dx}{g:GS}{w:World}{v:Gv}(h:Gs c g w v) (cs:List Value) (t:TypeId):Lb c g (w.alloc (.cells cs.toArray t)) w.heap.size cs:=⟨Bxx.new w cs.toArray t,h.new.1,h.new.2.1,h.new.2.2⟩
structure Ec (c:Dx) (v:Gv) (g0:GS) (w0:World) (g:GS) (w:World):Prop where
 st:Stp g0 w0 g w
 gs:Gs c g w v
theorem Ec.later {c:Dx}{v:Gv}{g0 g:GS}{w0 w w':World}(h:Ec c v g0 w0 g w) (l:Later w w'):Ec c v g0 w0 g w':=⟨h.st.later l,h.gs.later l⟩
theorem Ec.own {c:Dx}{v:Gv}{g0 g:GS}{w0 w w':World}(h:Ec c v g0 w0 g w) {b:Nat}{cs:List Value}(hb:Lb c g w b cs) (h0:w0.heap.size≤b) (o:OnlyK b w w'):Ec c v g0 w0 g w':=⟨h.st.only o (.inl h0),h.gs.own o hb.s hb.d hb.hi⟩
theorem Ec.seal {c:Dx}{v:Gv}{g0 g:GS}{w0 w:World}(h:Ec c v g0 w0 g w) {b:Nat}{cs:List Value}(hb:Lb c g w b cs) (h0:w0.heap.size≤b):Ec c v g0 w0 (g.seal b) w:=⟨h.st.seal h0,h.gs.seal hb.bx.lt hb.d⟩
theorem Ec.call {c:Dx}{v v':Gv}{g0 g g':GS}{w0 w w':World}(h:Ec c v g0 w0 g w) (t:Stp g w g' w') (k:Gs c g' w' v'):Ec c v' g0 w0 g' w':=⟨h.st.trans t,k⟩
def Ans (c:Dx) (v:Gv) (g:GS) (w:World) (P:World→Value→Prop) (u:Value) (w':World):Prop:=∃ g',Stp g w g' w'∧Gs c g' w' v∧P (mask g' w') u
def AnsP (c:Dx) (v:Gv) (g:GS) (w:World) (P:World→Value→Prop) (e:Ending) (w':World):Prop:=∃ u,e=.returned u∧Ans c v g w P u w'
def ExV (m:World) (u:Value):Prop:=∃ k n tk tn a0 n0 c0 a1 n1 c1,u=.agg #[.int .i64 k,.int .i64 n,.int .i64 tk,.int .i64 tn,.slice a0 n0 c0,.slice a1 n1 c1]∧ExS m k n tk tn (.slice a0 n0 c0) (.slice a1 n1 c1)
def IntV (lo hi:Int) (_:World) (u:Value):Prop:=∃ z:Int,u=.int .i64 z∧lo≤z∧z<hi
theorem zal {c:Dx}{g:GS}{w:World}{v:Gv}(h:Gs c g w v) (n:Int) (h0:0<n) (h1:n≤2147483647):Calls Tryz.prog 39 #[.pointer (some ⟨c.K,0,none⟩),.int .i64 n] w (AnsP c v g w (IntV 0 n)):=by
 refine (zcd (At.start h.cur) n h0 h1).mono ?_;rintro e w' ⟨z,rfl,z0,z1,hc,ho⟩;exact⟨_,rfl,g,(Stp.refl g w).only ho (.inr h.dK),h.curs ho hc,z,rfl,z0,z1⟩
theorem zce {c:Dx}{g:GS}{w:World}{v:Gv}(h:Gs c g w v) (n:Int) (h0:0<n) (h1:n≤2147483647):Calls Tryz.prog 23 #[.pointer (some ⟨c.K,0,none⟩),.int .i64 n] w (AnsP c v g w fun _ u=>∃ b:Bool,u=.bool b):=by
 refine (once_at (At.start h.cur) n h0 h1).mono ?_;rintro e w' ⟨b,rfl,hc,ho⟩;exact⟨_,rfl,g,(Stp.refl g w).only ho (.inr h.dK),h.curs ho hc,b,rfl⟩
theorem pu6 {w3:World}{B:Nat}{c0 c1 c2 c3 c4 c5:Value}(hb:Bxx w3 B [c0,c1,c2,c3,c4,c5]) (a b c d e f:Value):∃ W,Hid (W=(((((w3.setCell ⟨B,0,none⟩ a).setCell ⟨B,1,none⟩ b).setCell ⟨B,2,none⟩ c).setCell ⟨B,3,none⟩ d).setCell ⟨B,4,none⟩ e).setCell ⟨B,5,none⟩ f)∧OnlyK B w3 W∧Bxx W B [a,b,c,d,e,f]∧W.heap.size=w3.heap.size :=
 ⟨_,rfl,((((((OnlyK.refl _ w3).set 0 _).set 1 _).set 2 _).set 3 _).set 4 _).set 5 _,(((((hb.set 0 _ (by simp)).set 1 _ (by simp)).set 2 _ (by simp)).set 3 _ (by simp)).set 4 _ (by simp)).set 5 _ (by simp),by simp[World.size_setCell]⟩
theorem Bxx.c6 {w:World}{B:Nat}{a b c d e f:Value}(h:Bxx w B [a,b,c,d,e,f]):((w.cell? ⟨B,0,none⟩=some a∧w.frozen? ⟨B,0,none⟩=false)∧(w.cell? ⟨B,1,none⟩=some b∧w.frozen? ⟨B,1,none⟩=false)∧(w.cell? ⟨B,2,none⟩=some c∧w.frozen? ⟨B,2,none⟩=false)∧(w.cell? ⟨B,3,none⟩=some d∧w.frozen? ⟨B,3,none⟩=false)∧(w.cell? ⟨B,4,none⟩=some e∧w.frozen? ⟨B,4,none⟩=false)∧(w.cell? ⟨B,5,none⟩=some f∧w.frozen? ⟨B,5,none⟩=false))∧B<w.heap.size:=⟨⟨h.cell 0 _ rfl,h.cell 1 _ rfl,h.cell 2 _ rfl,h.cell 3 _ rfl,h.cell 4 _ rfl,h.cell 5 _ rfl⟩,h.lt⟩
theorem Ec.list1 {c:Dx}{v:Gv}{g0 g:GS}{w0 w:World}(h:Ec c v g0 w0 g w) {b:Nat}(hb:w.heap.size=b) {k1 n1 tk1 tn1:Int}{u0 u1:Value}(hx:ExS (mask g w) k1 n1 tk1 tn1 u0 u1):∃ g',Ec c v g0 w0 g' (w.alloc (.cells #[.int .i64 k1,.int .i64 n1,.int .i64 tk1,.int .i64 tn1,u0,u1] 89))∧Sub (mask g w) (mask g' (w.alloc (.cells #[.int .i64 k1,.int .i64 n1,.int .i64 tk1,.int .i64 tn1,u0,u1] 89)))∧KsS (mask g' (w.alloc (.cells #[.int .i64 k1,.int .i64 n1,.int .i64 tk1,.int .i64 tn1,u0,u1] 89))) (.slice (some ⟨b,0,none⟩) 1 1):=by
 subst hb;have hN:=Lb.new h.gs [.int .i64 k1,.int .i64 n1,.int .i64 tk1,.int .i64 tn1,u0,u1] 89;have ov:=((Ov.later h.gs.ok (later1 w (.cells [.int .i64 k1,.int .i64 n1,.int .i64 tk1,.int .i64 tn1,u0,u1].toArray 89))).trans (Ov.seal _ _ w.heap.size)).sub;exact⟨_,(h.later (later1 _ _)).seal hN h.st.size,ov,KsS.one hN.bx ((g.sealed _ _).2 (.inr rfl)) (hx.sub ov)⟩
theorem Ec.list2 {c:Dx}{v:Gv}{g0 g:GS}{w0 w:World}(h:Ec c v g0 w0 g w) {b:Nat}(hb:w.heap.size=b) {k1 n1 tk1 tn1 k2 n2 tk2 tn2:Int}{u0 u1 x0 x1:Value}(hx:ExS (mask g w) k1 n1 tk1 tn1 u0 u1) (hy:ExS (mask g w) k2 n2 tk2 tn2 x0 x1):∃ g',Ec c v g0 w0 g' (w.alloc (.cells #[.int .i64 k1,.int .i64 n1,.int .i64 tk1,.int .i64 tn1,u0,u1,.int .i64 k2,.int .i64 n2,.int .i64 tk2,.int .i64 tn2,x0,x1] 89))∧Sub (mask g w) (mask g' (w.alloc (.cells #[.int .i64 k1,.int .i64 n1,.int .i64 tk1,.int .i64 tn1,u0,u1,.int .i64 k2,.int .i64 n2,.int .i64 tk2,.int .i64 tn2,x0,x1] 89)))∧KsS (mask g' (w.alloc (.cells #[.int .i64 k1,.int .i64 n1,.int .i64 tk1,.int .i64 tn1,u0,u1,.int .i64 k2,.int .i64 n2,.int .i64 tk2,.int .i64 tn2,x0,x1] 89))) (.slice (some ⟨b,0,none⟩) 2 2):=by
 subst hb;have hN:=Lb.new h.gs [.int .i64 k1,.int .i64 n1,.int .i64 tk1,.int .i64 tn1,u0,u1,.int .i64 k2,.int .i64 n2,.int .i64 tk2,.int .i64 tn2,x0,x1] 89;have ov:=((Ov.later h.gs.ok (later1 w (.cells [.int .i64 k1,.int .i64 n1,.int .i64 tk1,.int .i64 tn1,u0,u1,.int .i64 k2,.int .i64 n2,.int .i64 tk2,.int .i64 tn2,x0,x1].toArray 89))).trans (Ov.seal _ _ w.heap.size)).sub;exact⟨_,(h.later (later1 _ _)).seal hN h.st.size,ov,KsS.two hN.bx ((g.sealed _ _).2 (.inr rfl)) (hx.sub ov) (hy.sub ov)⟩
theorem Ec.ans {c:Dx}{v:Gv}{g0 g:GS}{w0 w:World}(h:Ec c v g0 w0 g w) {k n tk tn:Int}{a0:Option Addr}{n0 c0:Nat}{a1:Option Addr}{n1 c1:Nat}(hx:ExS (mask g w) k n tk tn (.slice a0 n0 c0) (.slice a1 n1 c1)):AnsP c v g0 w0 ExV (.returned (.agg #[.int .i64 k,.int .i64 n,.int .i64 tk,.int .i64 tn,.slice a0 n0 c0,.slice a1 n1 c1])) w:=⟨_,rfl,g,h.st,h.gs,_,_,_,_,_,_,_,_,_,_,rfl,hx⟩
theorem Ec.fin {c:Dx}{v:Gv}{g0 g:GS}{w0 w:World}(h:Ec c v g0 w0 g w) {b:Nat}{z0 z1 z2 z3 z4 z5:Value}(hb:Lb c g w b [z0,z1,z2,z3,z4,z5]) (h0:w0.heap.size≤b) {k n tk tn:Int}{a0:Option Addr}{n0 c0:Nat}{a1:Option Addr}{n1 c1:Nat}(hx:ExS (mask g w) k n tk tn (.slice a0 n0 c0) (.slice a1 n1 c1)):∃ W,Hid (W=(((((w.setCell ⟨b,0,none⟩ (.int .i64 k)).setCell ⟨b,1,none⟩ (.int .i64 n)).setCell ⟨b,2,none⟩ (.int .i64 tk)).setCell ⟨b,3,none⟩ (.int .i64 tn)).setCell ⟨b,4,none⟩ (.slice a0 n0 c0)).setCell ⟨b,5,none⟩ (.slice a1 n1 c1))∧Bxx W b [.int .i64 k,.int .i64 n,.int .i64 tk,.int .i64 tn,.slice a0 n0 c0,.slice a1 n1 c1]∧Hid (AnsP c v g0 w0 ExV (.returned (.agg #[.int .i64 k,.int .i64 n,.int .i64 tk,.int .i64 tn,.slice a0 n0 c0,.slice a1 n1 c1])) W):=by
 obtain⟨W,hW,oW,bW,sW⟩:=pu6 hb.bx (.int .i64 k) (.int .i64 n) (.int .i64 tk) (.int .i64 tn) (.slice a0 n0 c0) (.slice a1 n1 c1);exact⟨W,hW,bW,(h.own hb h0 oW).ans (hx.sub (Ov.only h.gs.ok oW hb.s).sub)⟩
theorem Ec.fin1 {c:Dx}{v:Gv}{g0 g:GS}{w0 w:World}(h:Ec c v g0 w0 g w) {b:Nat}{z0 z1 z2 z3 z4 z5:Value}(hb:Lb c g w b [z0,z1,z2,z3,z4,z5]) (h0:w0.heap.size≤b) {k n tk tn:Int}{a0:Option Addr}{n0 c0:Nat}(hn:InR n) (hm:NmS (mask g w) (.slice a0 n0 c0)) {k1 n1 tk1 tn1:Int}{u0 u1:Value}(hx:ExS (mask g w) k1 n1 tk1 tn1 u0 u1):∃ W,Hid (W=((((((w.setCell ⟨b,0,none⟩ (.int .i64 k)).setCell ⟨b,1,none⟩ (.int .i64 n)).setCell ⟨b,2,none⟩ (.int .i64 tk)).setCell ⟨b,3,none⟩ (.int .i64 tn)).setCell ⟨b,4,none⟩ (.slice a0 n0 c0)).setCell ⟨b,5,none⟩ (.slice (some ⟨w.heap.size,0,none⟩) 1 1)).alloc (.cells #[.int .i64 k1,.int .i64 n1,.int .i64 tk1,.int .i64 tn1,u0,u1] 89))∧Bxx W b [.int .i64 k,.int .i64 n,.int .i64 tk,.int .i64 tn,.slice a0 n0 c0,.slice (some ⟨w.heap.size,0,none⟩) 1 1]∧Hid (AnsP c v g0 w0 ExV (.returned (.agg #[.int .i64 k,.int .i64 n,.int .i64 tk,.int .i64 tn,.slice a0 n0 c0,.slice (some ⟨w.heap.size,0,none⟩) 1 1])) W):=by
 obtain⟨W0,hW0,oW,bW,sW⟩:=pu6 hb.bx (.int .i64 k) (.int .i64 n) (.int .i64 tk) (.int .i64 tn) (.slice a0 n0 c0) (.slice (some ⟨w.heap.size,0,none⟩) 1 1);have ov:=(Ov.only h.gs.ok oW hb.s).sub;obtain⟨g',h2,o2,hk⟩:=(h.own hb h0 oW).list1 sW (hx.sub ov);exact⟨_,(by rw[hW0.out];exact rfl),bW.later (later1 _ _),h2.ans ⟨(hm.sub ov).sub o2,hk,hn⟩⟩
theorem Ec.fin2 {c:Dx}{v:Gv}{g0 g:GS}{w0 w:World}(h:Ec c v g0 w0 g w) {b:Nat}{z0 z1 z2 z3 z4 z5:Value}(hb:Lb c g w b [z0,z1,z2,z3,z4,z5]) (h0:w0.heap.size≤b) {k n tk tn:Int}{a0:Option Addr}{n0 c0:Nat}(hn:InR n) (hm:NmS (mask g w) (.slice a0 n0 c0)) {k1 n1 tk1 tn1 k2 n2 tk2 tn2:Int}{u0 u1 x0 x1:Value}(hx:ExS (mask g w) k1 n1 tk1 tn1 u0 u1) (hy:ExS (mask g w) k2 n2 tk2 tn2 x0 x1):∃ W,Hid (W=((((((w.setCell ⟨b,0,none⟩ (.int .i64 k)).setCell ⟨b,1,none⟩ (.int .i64 n)).setCell ⟨b,2,none⟩ (.int .i64 tk)).setCell ⟨b,3,none⟩ (.int .i64 tn)).setCell ⟨b,4,none⟩ (.slice a0 n0 c0)).setCell ⟨b,5,none⟩ (.slice (some ⟨w.heap.size,0,none⟩) 2 2)).alloc (.cells #[.int .i64 k1,.int .i64 n1,.int .i64 tk1,.int .i64 tn1,u0,u1,.int .i64 k2,.int .i64 n2,.int .i64 tk2,.int .i64 tn2,x0,x1] 89))∧Bxx W b [.int .i64 k,.int .i64 n,.int .i64 tk,.int .i64 tn,.slice a0 n0 c0,.slice (some ⟨w.heap.size,0,none⟩) 2 2]∧Hid (AnsP c v g0 w0 ExV (.returned (.agg #[.int .i64 k,.int .i64 n,.int .i64 tk,.int .i64 tn,.slice a0 n0 c0,.slice (some ⟨w.heap.size,0,none⟩) 2 2])) W):=by
 obtain⟨W0,hW0,oW,bW,sW⟩:=pu6 hb.bx (.int .i64 k) (.int .i64 n) (.int .i64 tk) (.int .i64 tn) (.slice a0 n0 c0) (.slice (some ⟨w.heap.size,0,none⟩) 2 2);have ov:=(Ov.only h.gs.ok oW hb.s).sub;obtain⟨g',h2,o2,hk⟩:=(h.own hb h0 oW).list2 sW (hx.sub ov) (hy.sub ov);exact⟨_,(by rw[hW0.out];exact rfl),bW.later (later1 _ _),h2.ans ⟨(hm.sub ov).sub o2,hk,hn⟩⟩
theorem Ec.start {c:Dx}{v:Gv}{g:GS}{w:World}(h:Gs c g w v):Ec c v g w g w:=⟨Stp.refl g w,h⟩
theorem zbu (n:Int) (w:World):Calls Tryz.prog 44 #[.int .i64 n] w fun e w'=>e=.returned (.agg #[.int .i64 0,.int .i64 n,.int .i64 0,.int .i64 0,.slice none 0 0,.slice none 0 0])∧Later w w':=by
 go_enter Tryz.func44,Tryz.ntmps44;go_wp2_with fail
 exact bodyPost_ret (v:=.agg #[.int .i64 0,.int .i64 n,.int .i64 0,.int .i64 0,.slice none 0 0,.slice none 0 0]) (by simp[results,Tryz.results44,go_sem]) rfl ⟨rfl,later1 _ _⟩
theorem zbr {c:Dx}{g:GS}{w:World}{v:Gv}(h:Gs c g w v) (op k n tk tn k' n' tk' tn':Int) (hop:InR op) (a0:Option Addr) (n0 c0:Nat) (a1:Option Addr) (n1 c1:Nat) (b0:Option Addr) (m0 d0:Nat) (b1:Option Addr) (m1 d1:Nat) (hx:ExS (mask g w) k n tk tn (.slice a0 n0 c0) (.slice a1 n1 c1)) (hy:ExS (mask g w) k' n' tk' tn' (.slice b0 m0 d0) (.slice b1 m1 d1)):Calls Tryz.prog 61 #[.int .i64 op,.agg #[.int .i64 k,.int .i64 n,.int .i64 tk,.int .i64 tn,.slice a0 n0 c0,.slice a1 n1 c1],.agg #[.int .i64 k',.int .i64 n',.int .i64 tk',.int .i64 tn',.slice b0 m0 d0,.slice b1 m1 d1]] w (AnsP c v g w ExV):=by
 have hE:=((Ec.start h).later ((later1 w (.cells #[.int .i64 k,.int .i64 n,.int .i64 tk,.int .i64 tn,.slice a0 n0 c0,.slice a1 n1 c1] 89)).trans (later1 _ (.cells #[.int .i64 k',.int .i64 n',.int .i64 tk',.int .i64 tn',.slice b0 m0 d0,.slice b1 m1 d1] 89)))).later (later1 _ (.cells #[.int .i64 10,.int .i64 op,.int .i64 0,.int .i64 0,.slice none 0 0,.slice (some ⟨w.heap.size+1+1+1,0,none⟩) 2 2] 89));have ov:=(Ov.stp h.ok hE.st).sub;obtain⟨g',h2,o2,hk⟩:=hE.list2 (b:=w.heap.size+1+1+1) (by simp) (hx.sub ov) (hy.sub ov);have HY:Hid (AnsP c v g w ExV _ _):=h2.ans (k:=10) (tk:=0) (tn:=0) ⟨NmS.nil _,hk,hop⟩;clear hk o2 h2 ov hE hx hy h
 generalize AnsP c v g w ExV=Q at *
 go_enter Tryz.func61,Tryz.ntmps61;go_wp2_with fail
 exact bodyPost_ret (v:=.agg #[.int .i64 10,.int .i64 op,.int .i64 0,.int .i64 0,.slice none 0 0,.slice (some ⟨w.heap.size+1+1+1,0,none⟩) 2 2]) (by simp[results,Tryz.results61,go_sem]) rfl HY.out
theorem Gs.name {c:Dx}{g:GS}{w:World}{v:Gv}(h:Gs c g w v) (i:Nat) (hi:i<v.n):∃ b p a0 n0 c0,v.nv=.slice (some ⟨b,0,none⟩) v.n p∧b<w.heap.size∧w.cell? ⟨b,i,none⟩=some (.slice a0 n0 c0)∧NmS (mask g w) (.slice a0 n0 c0):=by
 obtain⟨xs,o,hq⟩:=h.nm;rcases o.2 with ⟨_,e⟩|⟨b,p,cur,e,_⟩
 ·omega
 ·have ho:=o;rw[e]at ho;have hx:i<xs.length:=by rw[o.1];omega
  have hm:=hq _ (List.getElem_mem hx);obtain⟨a0,n0,c0,e0⟩:=hm.slice;refine⟨b,p,a0,n0,c0,e,(ho.lt b rfl).2,?_,e0 ▸ hm⟩;rw[ho.cellAt i (by omega),List.getElem?_eq_getElem hx,e0]
theorem Gs.tyAt {c:Dx}{g:GS}{w:World}{v:Gv}(h:Gs c g w v) (i:Nat) (hi:i<v.n):∃ b p k n,v.tv=.slice (some ⟨b,0,none⟩) v.n p∧b<w.heap.size∧w.cell? ⟨b,i*2,none⟩=some (.int .i64 k)∧w.cell? ⟨b,i*2+1,none⟩=some (.int .i64 n)∧InR n:=by
 obtain⟨l,hl,o,hq⟩:=h.ty;rcases o.2 with ⟨_,e⟩|⟨b,p,cur,e,_⟩
 ·omega
 ·have ho:=o;rw[e]at ho;obtain⟨t1,t2⟩:=tyCells_at l i (by omega);exact⟨b,p,_,_,e,(ho.lt b rfl).2,by rw[ho.cellAt _ (by omega)];exact t1,by rw[ho.cellAt _ (by omega)];exact t2,hq _ (List.getElem_mem _)⟩
theorem Gs.fxAt {c:Dx}{g:GS}{w:World}{v:Gv}(h:Gs c g w v) (i:Nat) (hi:i<v.n):∃ b p t,v.xv=.slice (some ⟨b,0,none⟩) v.n p∧b<w.heap.size∧w.cell? ⟨b,i,none⟩=some (.bool t):=by
 obtain⟨l,o⟩:=h.fx;rcases o.2 with ⟨_,e⟩|⟨b,p,cur,e,_⟩
 ·omega
 ·have ho:=o;rw[e]at ho;have hx:i<(l.map Value.bool).length:=by rw[o.1];omega
  have hx':i<l.length:=by simpa using hx
  refine⟨b,p,l[i],e,(ho.lt b rfl).2,?_⟩;rw[ho.cellAt i (by omega),List.getElem?_map,List.getElem?_eq_getElem hx'];rfl
theorem Gs.nvS {c:Dx}{g:GS}{w:World}{v:Gv}(h:Gs c g w v):(∃ a p,v.nv=.slice a v.n p)∧(∃ a p,v.tv=.slice a v.n p)∧(∃ a p,v.xv=.slice a v.n p)∧(∃ a p,v.fv=.slice a v.fs.length p)∧∃ a p,v.sv=.slice a v.ss.length p:=by
 obtain⟨xs,o1,_⟩:=h.nm;obtain⟨l,_,o2,_⟩:=h.ty;obtain⟨l2,o3⟩:=h.fx;obtain⟨l3,o4,_⟩:=h.fs;obtain⟨a,p,e,_⟩:=Sc.slice h.ss;exact⟨zac o1,zac o2,zac o3,zac o4,a,p,e⟩
theorem Gs.ten {c:Dx}{g:GS}{w:World}{v:Gv}(h:Gs c g w v):∃ nx lf:Int,w.cell? ⟨c.G,0,none⟩=some (.pointer (some ⟨c.K,0,none⟩))∧w.cell? ⟨c.G,1,none⟩=some v.sv∧w.cell? ⟨c.G,2,none⟩=some v.fv∧w.cell? ⟨c.G,3,none⟩=some v.nv∧w.cell? ⟨c.G,4,none⟩=some v.tv∧w.cell? ⟨c.G,5,none⟩=some v.xv∧w.cell? ⟨c.G,6,none⟩=some (.int .i64 nx)∧w.cell? ⟨c.G,7,none⟩=some (.int .i64 lf)∧w.cell? ⟨c.G,8,none⟩=some (.int .i64 v.rk)∧w.cell? ⟨c.G,9,none⟩=some (.int .i64 v.rn)∧(∀ j,j<10→w.frozen? ⟨c.G,j,none⟩=false)∧c.G<w.heap.size:=by
 obtain⟨nx,lf,hb⟩:=h.box;refine⟨nx,lf,(hb.cell 0 _ rfl).1,(hb.cell 1 _ rfl).1,(hb.cell 2 _ rfl).1,(hb.cell 3 _ rfl).1,(hb.cell 4 _ rfl).1,(hb.cell 5 _ rfl).1,(hb.cell 6 _ rfl).1,(hb.cell 7 _ rfl).1,(hb.cell 8 _ rfl).1,(hb.cell 9 _ rfl).1,fun j hj=>?_,hb.lt⟩;exact (hb.cell j _ (List.getElem?_eq_getElem (by simpa using hj))).2
theorem var_any {c:Dx}{g:GS}{w:World}{v:Gv}(h:Gs c g w v) (i:Nat) (hi:i<v.n):Calls Tryz.prog 90 #[.pointer (some ⟨c.G,0,none⟩),.int .i64 (i:Int)] w (AnsP c v g w ExV):=by
 obtain⟨nx,lf,_,_,_,c3,_,_,_,_,_,_,_,hG⟩:=h.ten;obtain⟨b,p,a0,n0,c0,e,hb,hc,hm⟩:=h.name i hi;rw[e]at c3;have hE:=(Ec.start h).later (later1 w (.cells #[.int .i64 3,.int .i64 0,.int .i64 0,.int .i64 0,.slice a0 n0 c0,.slice none 0 0] 89));have HY:Hid (AnsP c v g w ExV _ _):=hE.ans (k:=3) (n:=0) (tk:=0) (tn:=0) ⟨hm.sub (Ov.stp h.ok hE.st).sub,KsS.nil _,by unfold InR;omega⟩;have i1:(i:Int)<(v.n:Int):=by omega
 have hfew:=h.few;clear hE hm h e hi
 generalize AnsP c v g w ExV=Q at *
 generalize c.G=G at *
 generalize v.n=N at *
 go_enter Tryz.func90,Tryz.ntmps90;go_wp2_with fail
 exact bodyPost_ret (v:=.agg #[.int .i64 3,.int .i64 0,.int .i64 0,.int .i64 0,.slice a0 n0 c0,.slice none 0 0]) (by simp[results,Tryz.results90,go_sem]) rfl HY.out
def lsOf (k n:Int):Int × Int × Bool:=if k=1 then (4,0,true) else if k=2 then (5,0,true) else if k=3 then (6,n,true) else (0,0,false)
theorem list_any (k n:Int) (w:World):Calls Tryz.prog 92 #[.agg #[.int .i64 k,.int .i64 n]] w fun e w'=>e=.returned (.tuple #[.agg #[.int .i64 (lsOf k n).1,.int .i64 (lsOf k n).2.1],.bool (lsOf k n).2.2])∧Later w w':=by
 have hL:∀ a b:Obj,Later w ((w.alloc a).alloc b):=fun a b=>(later1 _ _).trans (later1 _ _);by_cases h1:k=1
 ·subst h1;go_enter Tryz.func92,Tryz.ntmps92;go_wp2_with fail
  exact bodyPost_ret (v:=.tuple #[.agg #[.int .i64 4,.int .i64 0],.bool true]) (by simp[results,Tryz.results92,go_sem]) rfl ⟨rfl,hL _ _⟩
 ·by_cases h2:k=2
  ·subst h2;go_enter Tryz.func92,Tryz.ntmps92;go_wp2_with fail
   exact bodyPost_ret (v:=.tuple #[.agg #[.int .i64 5,.int .i64 0],.bool true]) (by simp[results,Tryz.results92,go_sem]) rfl ⟨rfl,hL _ _⟩
  ·by_cases h3:k=3
   ·subst h3;go_enter Tryz.func92,Tryz.ntmps92;go_wp2_with fail
    exact bodyPost_ret (v:=.tuple #[.agg #[.int .i64 6,.int .i64 n],.bool true]) (by simp[results,Tryz.results92,go_sem]) rfl ⟨rfl,hL _ _⟩
   ·have e:lsOf k n=(0,0,false):=by unfold lsOf;rw[if_neg h1,if_neg h2,if_neg h3]
    have h1':(k==1)=false:=by simpa using h1
    have h2':(k==2)=false:=by simpa using h2
    have h3':(k==3)=false:=by simpa using h3
    rw[e];clear e;go_enter Tryz.func92,Tryz.ntmps92;go_wp2_with fail
    exact bodyPost_ret (v:=.tuple #[.agg #[.int .i64 0,.int .i64 0],.bool false]) (by simp[results,Tryz.results92,go_sem]) rfl ⟨rfl,hL _ _⟩
end Go.Proofs.YtgholpilmdebmaaGreatDoor
