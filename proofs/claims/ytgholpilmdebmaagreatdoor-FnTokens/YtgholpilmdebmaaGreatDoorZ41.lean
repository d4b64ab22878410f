import Derived.Test.YtgholpilmdebmaaGreatDoorZ39
import Derived.Test.YtgholpilmdebmaaGreatDoorZ40
import Derived.Deep.Cut
import Derived.Deep.CutBlock
import Derived.Deep.RegionHeldLaw
set_option maxHeartbeats 100000000
set_option maxRecDepth 100000
namespace Go.Proofs.YtgholpilmdebmaaGreatDoor
open Go.RowKit Go.Maps
def FunR (c:Dx) (v:Gv) (g:GS) (w:World) (u:Value) (w':World):Prop:=∃ (g':GS) (nv tv xv:Value) (n1:Nat) (rk rn:Int) (x:Fu) (a0:Option Addr) (n0 c0:Nat) (a1:Option Addr) (m1 c1:Nat) (a2:Option Addr) (n2 c2:Nat),Stp g w g' w'∧Gs c g' w' { v with nv:=nv,tv:=tv,xv:=xv,n:=n1,rk:=rk,rn:=rn }∧u=.agg #[.slice a0 n0 c0,.slice a1 m1 c1,.int .i64 x.rk,.int .i64 x.rn,.slice a2 n2 c2]∧RdD (mask g' w') x.dat [.slice a0 n0 c0,.slice a1 m1 c1,.int .i64 x.rk,.int .i64 x.rn,.slice a2 n2 c2]∧InR x.rn∧St.goods x.body∧x.params.length≤4∧PsOk x.params
theorem Ec.sealPs {c:Dx}{v:Gv}{g0 g:GS}{w0 w:World}(h:Ec c v g0 w0 g w) {B:Nat}{u:Value}{l:List Pa}{xs:List Value}(r:Rw g w B 69 3 u (Pa.dats l) xs) (hB:w0.heap.size≤B):∃ g',Ec c v g0 w0 g' w∧Sub (mask g w) (mask g' w)∧RdL (mask g' w) 3 u (Pa.dats l)∧∀ (B2:Nat) (u2:Value) (l2:List Dat) (x2:List Value),Rw g w B2 92 8 u2 l2 x2→(∀ b,u.ownBlock=some b→u2.ownBlock≠some b)→Rw g' w B2 92 8 u2 l2 x2:=by
 rcases r.done with ⟨_,q⟩|⟨b,e,h1,h2,_,h4,q⟩
 ·exact⟨g,h,(Ov.refl g w).sub,q,fun _ _ _ _ r2 _=>r2⟩
 ·exact⟨_,h.seal2 h2 h4 (Nat.le_trans hB h1),(Ov.seal g w b).sub,q,fun _ _ _ _ r2 ha=>r2.seal b (ha b e)⟩
theorem step_append_row {P:Program}{ops:Array Oper}{o:Oper}{a:Act}{w:World}{K:Act→World→Prop}{Q:Exit→Act→World→Prop}{E:Prop}
  (hg:o.guard=none) (s x:Operand) (t:TypeId) (hop:o.op=Op.call { callee:=Callee.builtin Builtin.append,args:=#[s,x],argTypes:=#[t,t] })
  (base:Nat) (e:TypeId) (i:TypeInfo) (z:Value) (size bytes:Nat) (ht:P.underlying t=some (.slice e)) (hi:P.info? e=some i) (hz:i.zero=some z)
  (hsize:i.size=size) (hby:i.bytes=bytes) (hzs:z.cells.size=size) (hsz:0<size)
  (v:Value) (n:Nat) (xs:List Value) (hs:a.eval s=v) (hown:w.ownsRow base e size v n xs)
  (v5:Value) (m B5:Nat) (news:List Value) (hx:a.eval x=v5) (h5:w.ownsRow B5 e size v5 m news) (h1:∀ u∈news,u.oneCell'=true)
  (h63:n+m≤maxLen) (hbytes:(n+m)*bytes≤140737488355328) (hbase:base≤w.heap.size)
  (h:∀ v' w',w'.ownsRow base e size v' (n+m) (xs++news)→w.grownBy w' v.ownBlock→(v'.ownBlock=v.ownBlock∨v'.ownBlock=some w.heap.size)→K (a.put o.dst v') w') :
  if Region.wanted o (yielded ops a.tmps)=true then Oper.wp P o a w K Q else E:=by
 rcases h5.2 with ⟨e1,e2⟩|⟨b,cap,cur,e1,_⟩
 ·have hn:news=[]:=List.eq_nil_of_length_eq_zero (by rw[h5.1,e2,Nat.zero_mul]);subst hn;subst e2;have hw:Region.wanted o (yielded ops a.tmps)=true:=by simp[Region.wanted,hg]
  rw[if_pos hw];have hrun:=run_append_none (P:=P) (w:=w) base t o.type e i size ht hi v n xs hown 0;unfold Oper.wp execOp;simp only[hop,resolve,invoke,builtin,Sem.run_bind,Sem.run_pure,Result.andThen_ok,List.map_toArray,List.map_cons,List.map_nil,hs,hx,e1,hrun];exact h v w (by simpa using hown) ⟨rfl,rfl,rfl,Nat.le_refl _,fun _ _ _=>rfl⟩ (.inl rfl)
 ·have hr:=h5;rw[e1]at hr;refine zae hg s x t hop base e i z size bytes ht hi hz hsize hby hzs hsz v n xs hs hown ⟨b,0,none⟩ m cap news (by rw[hx,e1]) h5.1 (fun j u q=>?_) h1 h63 hbytes hbase h;rw[Addr.add_lit,Nat.zero_add,hr.cellAt j (by have:=(List.getElem?_eq_some_iff.1 q).1;rw[h5.1]at this;exact this)];exact q
theorem en_more:Enters Tryz.prog 62:=zai Tryz.func62 (by kernel_rfl) (by kernel_rfl)
structure Pb (c:Dx) (v:Gv) (g0:GS) (w0:World) (F R:Nat) (nm pv:Value) (rk rn:Int) (ps:List Pa) (bv:Value) (l:List St) (ys:List Value) (g:GS) (w:World):Prop where
 pf:Pf c v g0 w0 F R nm pv rk rn bv ps g w
 rb:Rw g w (F+1) 92 8 bv (St.dats l) ys
 gd:St.goods l
 ap:∀ b,pv.ownBlock=some b→bv.ownBlock≠some b
 h0:w0.heap.size≤F
theorem Pb.call {c:Dx}{v v':Gv}{g0:GS}{w0:World}{F R:Nat}{nm pv:Value}{rk rn:Int}{ps:List Pa}{bv:Value}{l:List St}{ys:List Value}{g g':GS}{w w':World}(h:Pb c v g0 w0 F R nm pv rk rn ps bv l ys g w) (s:Stp g w g' w') (k:Gs c g' w' v'):Pb c v' g0 w0 F R nm pv rk rn ps bv l ys g' w':=⟨h.pf.call s k,h.rb.stp h.pf.zx.ec.gs.ok s,h.gd,h.ap,h.h0⟩
theorem Pb.later {c:Dx}{v:Gv}{g0:GS}{w0:World}{F R:Nat}{nm pv:Value}{rk rn:Int}{ps:List Pa}{bv:Value}{l:List St}{ys:List Value}{g:GS}{w w':World}(h:Pb c v g0 w0 F R nm pv rk rn ps bv l ys g w) (q:Later w w'):Pb c v g0 w0 F R nm pv rk rn ps bv l ys g w':=h.call ((Stp.refl g w).later q) (h.pf.zx.ec.gs.later q)
theorem Pb.push {c:Dx}{v:Gv}{g0:GS}{w0:World}{F R:Nat}{nm pv:Value}{rk rn:Int}{ps:List Pa}{bv bv':Value}{l l5:List St}{ys y5:List Value}{g:GS}{w w2 w3:World}(h:Pb c v g0 w0 F R nm pv rk rn ps bv l ys g w) (he:ElS (mask g w) 8 (St.dats l5) y5) (d5:St.goods l5) (o:w2.ownsRow (F+1) 92 8 bv' (l.length+l5.length) (ys++y5)) (hg:w.grownBy w2 bv.ownBlock) (hloc:bv'.ownBlock=bv.ownBlock∨bv'.ownBlock=some w.heap.size) (h3:w3=w2.setCell ⟨F,4,none⟩ bv'):Pb c v g0 w0 F R nm pv rk rn ps bv' (l++l5) (ys++y5) g w3∧Bxx w2 F [nm,pv,.int .i64 rk,.int .i64 rn,bv]:=by
 obtain⟨xs,rp⟩:=h.pf.rw;have hF:=h.pf.zx.b0.hi;have hne:=h.pf.ne;have h0:=h.h0;obtain⟨x2,ov2⟩:=h.pf.zx.grown h.rb (by omega) (by omega) (fun p q=>by (simp at q;rcases q with rfl|rfl <;> (try simp) <;> omega)) hg;have r2:=h.rb.push h.pf.zx.ec.gs.ok he (by rw[St.dats_len,St.dats_len];exact o) hg hloc;rw[←St.dats_app]at r2
 have rp2:=rp.grow h.pf.zx.ec.gs.ok hg (fun b e=>(h.rb.own b e).1) (by
  by_cases hh:pv.ownBlock=none
  ·exact .inl hh
  ·refine .inr fun ee=>?_;obtain⟨b,hb⟩:=Option.ne_none_iff_exists'.1 hh
   exact h.ap b hb (by rw[←ee];exact hb))
 have p2:Pf c v g0 w0 F R nm pv rk rn bv ps g w2:=⟨x2,h.pf.nm.sub ov2,⟨xs,rp2⟩,h.pf.ok,h.pf.rr,h.pf.ne⟩
 have o3:OnlyK F w2 w3:=by rw[h3];exact (OnlyK.refl _ _).set 4 _
 refine⟨⟨p2.put o3 (by rw[h3];exact x2.b0.bx.set 4 bv' (by simp)) h.pf.rr,r2.only x2.ec.gs.ok o3 x2.b0.s (fun e=>by have:=(r2.row.lt F e).1;omega),St.goods_app _ _ h.gd d5,fun b q e=>?_,h0⟩,x2.b0.bx⟩;rcases hloc with z|z
 ·exact h.ap b q (by rw[←z];exact e)
 ·rw[z]at e;have:=(rp.row.lt b q).2
  cases e
  omega
theorem pu5 {w3:World}{B:Nat}{c0 c1 c2 c3 c4:Value}(hb:Bxx w3 B [c0,c1,c2,c3,c4]) (a b c d e:Value):∃ W,Hid (W=((((w3.setCell ⟨B,0,none⟩ a).setCell ⟨B,1,none⟩ b).setCell ⟨B,2,none⟩ c).setCell ⟨B,3,none⟩ d).setCell ⟨B,4,none⟩ e)∧OnlyK B w3 W∧Bxx W B [a,b,c,d,e] :=
 ⟨_,rfl,(((((OnlyK.refl _ w3).set 0 _).set 1 _).set 2 _).set 3 _).set 4 _,((((hb.set 0 _ (by simp)).set 1 _ (by simp)).set 2 _ (by simp)).set 3 _ (by simp)).set 4 _ (by simp)⟩
theorem Pb.fin {c:Dx}{v:Gv}{g0:GS}{w0:World}{F R:Nat}{nm pv:Value}{rk rn:Int}{ps:List Pa}{bv:Value}{l:List St}{ys:List Value}{g:GS}{w:World}{nv tv xv:Value}{n1:Nat}(h:Pb c { v with nv:=nv,tv:=tv,xv:=xv,n:=n1,rk:=rk,rn:=rn } g0 w0 F R nm pv rk rn ps bv l ys g w) (hp:ps.length≤4) {a0 a1 a2:Option Addr}{n0 c0 m1 c1 n2 c2:Nat}(e0:nm=.slice a0 n0 c0) (e1:pv=.slice a1 m1 c1) (e2:bv=.slice a2 n2 c2):∃ W,Hid (W=((((w.setCell ⟨R,0,none⟩ nm).setCell ⟨R,1,none⟩ pv).setCell ⟨R,2,none⟩ (.int .i64 rk)).setCell ⟨R,3,none⟩ (.int .i64 rn)).setCell ⟨R,4,none⟩ bv)∧Bxx W R [nm,pv,.int .i64 rk,.int .i64 rn,bv]∧Hid (FunR c v g0 w0 (.agg #[.slice a0 n0 c0,.slice a1 m1 c1,.int .i64 rk,.int .i64 rn,.slice a2 n2 c2]) W):=by
 obtain⟨W,hW,oW,bW⟩:=pu5 h.pf.zx.b1.bx nm pv (.int .i64 rk) (.int .i64 rn) bv;obtain⟨xs,rp⟩:=h.pf.rw;have hne:=h.pf.ne;have ok:=h.pf.zx.ec.gs.ok;have b1:=h.pf.zx.b1;have h1:=(h.pf.zx.bx (R,_) (List.mem_cons_of_mem _ (List.mem_cons_self ..))).2;have hF:=(h.pf.zx.bx _ (List.mem_cons_self ..)).2;have eW:=h.pf.zx.ec.own b1 h1 oW;have sub:=(Ov.only ok oW b1.s).sub;have bF:=h.pf.zx.b0.only oW (by omega);have rpW:=rp.only ok oW b1.s (fun e=>by have:=(rp.row.lt R e).1;omega);have rbW:=h.rb.only ok oW b1.s (fun e=>by have:=(h.rb.row.lt R e).1;omega);obtain⟨g3,x3,o3,q3,t3⟩:=eW.sealPs rpW (by omega);obtain⟨g4,x4,o4,⟨l4,gd4,q4⟩,_⟩:=x3.sealRow (t3 _ _ _ _ rbW h.ap) h.gd (by omega);obtain⟨zs,rz⟩:=h.pf.nm;subst e0 e1 e2;exact⟨W,hW,bW,g4,nv,tv,xv,n1,rk,rn,.mk zs ps rk rn l4,a0,n0,c0,a1,m1,c1,a2,n2,c2,x4.st,x4.gs,rfl,Fu.unview (x:=.mk zs ps rk rn l4) (((rz.sub sub).sub o3).sub o4) (q3.sub o4) q4,h.pf.rr,gd4,hp,h.pf.ok⟩
theorem Pf.seal {c:Dx}{v:Gv}{g0:GS}{w0:World}{F R:Nat}{nm pv:Value}{rk rn:Int}{bv:Value}{ps:List Pa}{g:GS}{w:World}(h:Pf c v g0 w0 F R nm pv rk rn bv ps g w) {b:Nat}(hl:b<w.heap.size) (hd:¬ g.D b) (h0:w0.heap.size≤b) (hF:b≠F) (hR:b≠R) (hp:pv.ownBlock≠some b):Pf c v g0 w0 F R nm pv rk rn bv ps (g.seal b) w:=by
 obtain⟨xs,rp⟩:=h.rw;refine⟨⟨h.zx.ec.seal2 hl hd h0,fun p q=>⟨(h.zx.bx p q).1.seal ?_,(h.zx.bx p q).2⟩⟩,h.nm.sub (Ov.seal g w b).sub,⟨xs,rp.seal b hp⟩,h.ok,h.rr,h.ne⟩;simp at q;rcases q with rfl|rfl
 ·exact fun e=>hF e.symm
 ·exact fun e=>hR e.symm
theorem Pf.only {c:Dx}{v:Gv}{g0:GS}{w0:World}{F R:Nat}{nm pv:Value}{rk rn:Int}{bv:Value}{ps:List Pa}{g:GS}{w w':World}(h:Pf c v g0 w0 F R nm pv rk rn bv ps g w) {b:Nat}{cs:List Value}(o:OnlyK b w w') (hb:Lb c g w b cs) (h0:w0.heap.size≤b) (hF:b≠F) (hR:b≠R) (hp:pv.ownBlock≠some b):Pf c v g0 w0 F R nm pv rk rn bv ps g w':=by
 obtain⟨xs,rp⟩:=h.rw;have ok:=h.zx.ec.gs.ok;refine⟨⟨h.zx.ec.own hb h0 o,fun p q=>⟨(h.zx.bx p q).1.only o ?_,(h.zx.bx p q).2⟩⟩,h.nm.sub (Ov.only ok o hb.s).sub,⟨xs,rp.only ok o hb.s hp⟩,h.ok,h.rr,h.ne⟩;simp at q;rcases q with rfl|rfl
 ·exact fun e=>hF e.symm
 ·exact fun e=>hR e.symm
structure Pw (c:Dx) (v:Gv) (g0:GS) (w0:World) (F R E S:Nat) (nm pv:Value) (rk rn:Int) (ps:List Pa) (d kv:Value) (g:GS) (w:World):Prop where
 pf:Pf c v g0 w0 F R nm pv rk rn (.slice none 0 0) ps g w
 be:Lb c g w E [.int .i64 3,.int .i64 0,.int .i64 0,.int .i64 0,d,.slice none 0 0]
 bs:Lb c g w S [.int .i64 6,.int .i64 0,.int .i64 0,.int .i64 0,nm,kv]
 dn:NmS (mask g w) d
 ks:KsS (mask g w) kv
 h0:w0.heap.size≤F
theorem Pw.call {c:Dx}{v:Gv}{g0:GS}{w0:World}{F R E S:Nat}{nm pv:Value}{rk rn:Int}{ps:List Pa}{d kv:Value}{g:GS}{w:World}{g':GS}{w':World}(h:Pw c v g0 w0 F R E S nm pv rk rn ps d kv g w) (s:Stp g w g' w') (k:Gs c g' w' v):Pw c v g0 w0 F R E S nm pv rk rn ps d kv g' w' :=
 have o:=(Ov.stp h.pf.zx.ec.gs.ok s).sub
 ⟨h.pf.call s k,h.be.stp s,h.bs.stp s,h.dn.sub o,h.ks.sub o,h.h0⟩
theorem Pk.pw {c:Dx}{v:Gv}{g0:GS}{w0:World}{F R E S:Nat}{nm pv:Value}{rk rn:Int}{ps:List Pa}{d kv:Value}{l:List Ex}{xs:List Value}{g:GS}{w:World}(h:Pk c v g0 w0 F R E S nm pv rk rn ps d kv l xs g w):∃ g',Pw c v g0 w0 F R E S nm pv rk rn ps d kv g' w:=by
 rcases h.kr.done with ⟨_,q⟩|⟨b,e,h1,h2,_,h4,q⟩
 ·exact⟨g,h.pf,h.be,h.bs,h.dn,⟨l,h.gd,q⟩,h.h0⟩
 ·have hes:=h.es;have hfe:=h.fe;have hne:=h.pf.ne;have h00:=h.h0;exact⟨_,h.pf.seal h2 h4 (by omega) (by omega) (by omega) (fun e=>by have:=h.hp b e;omega),h.be.seal (by omega),h.bs.seal (by omega),h.dn.sub (Ov.seal g w b).sub,⟨l,h.gd,q⟩,h.h0⟩
def sl (j:Nat):Nat:=if j<11 then 168+j else 19
def Vl (c:Dx) (g:GS) (w:World) (n5:Nat) (nm d kv:Value):Nat→Value→Prop
 | 0,u=>u=.agg #[.int .i64 0,.int .i64 0,.int .i64 0,.int .i64 0,.slice none 0 0,.slice none 0 0]
 | 1,u=>u=.agg #[.int .i64 3,.int .i64 0,.int .i64 0,.int .i64 0,d,.slice none 0 0]
 | 2,u=>u=.agg #[.int .i64 0,.int .i64 9,.int .i64 0,.int .i64 0,.slice none 0 0,.slice none 0 0]
 | 3,u=>ExV (mask g w) u
 | 4,u=>ExV (mask g w) u
 | 5,u=>∃ b,u=.slice (some ⟨b,0,none⟩) 1 1∧KsS (mask g w) (.slice (some ⟨b,0,none⟩) 1 1)
 | 6,u=>u=.agg #[.int .i64 6,.int .i64 0,.int .i64 0,.int .i64 0,nm,kv]
 | 7,u=>∃ b,u=.slice (some ⟨b,0,none⟩) 1 1∧KsS (mask g w) (.slice (some ⟨b,0,none⟩) 1 1)
 | 8,u=>∃ b,u=.agg #[.int .i64 4,.int .i64 0,.int .i64 0,.int .i64 0,.slice none 0 0,.slice (some ⟨b,0,none⟩) 1 1,.slice none 0 0,.slice none 0 0]∧KsS (mask g w) (.slice (some ⟨b,0,none⟩) 1 1)
 | 9,u=>∃ b,u=.slice (some ⟨b,0,none⟩) 1 1∧BoS (mask g w) (.slice (some ⟨b,0,none⟩) 1 1)
 | 10,u=>∃ b b2,u=.agg #[.int .i64 2,.int .i64 0,.int .i64 0,.int .i64 0,.slice none 0 0,.slice (some ⟨b,0,none⟩) 1 1,.slice (some ⟨b2,0,none⟩) 1 1,.slice none 0 0]∧KsS (mask g w) (.slice (some ⟨b,0,none⟩) 1 1)∧BoS (mask g w) (.slice (some ⟨b2,0,none⟩) 1 1)
 | 11,u=>∃ T x0 x1 x2 x3 x4 x5 x6 x7,u=.pointer (some ⟨T,0,none⟩)∧n5≤T∧Lb c g w T [x0,x1,x2,x3,x4,x5,x6,x7]
 | 12,u=>∃ T b b2,u=.pointer (some ⟨T,0,none⟩)∧n5≤T∧Lb c g w T [.int .i64 2,.int .i64 0,.int .i64 0,.int .i64 0,.slice none 0 0,.slice (some ⟨b,0,none⟩) 1 1,.slice (some ⟨b2,0,none⟩) 1 1,.slice none 0 0]∧KsS (mask g w) (.slice (some ⟨b,0,none⟩) 1 1)∧BoS (mask g w) (.slice (some ⟨b2,0,none⟩) 1 1)
 | _,_=>False
theorem ExV.sub {m m':World}{u:Value}(h:ExV m u) (o:Sub m m'):ExV m' u:=by
 obtain⟨k,n,tk,tn,a0,n0,c0,a1,n1,c1,e,x⟩:=h;exact⟨k,n,tk,tn,a0,n0,c0,a1,n1,c1,e,x.sub o⟩
theorem Vl.stp {c:Dx}{g g':GS}{w w':World}{n5:Nat}{nm d kv:Value}(ok:g.Ok w) (s:Stp g w g' w'):∀ {j:Nat}{u:Value},Vl c g w n5 nm d kv j u→Vl c g' w' n5 nm d kv j u
 | 0,_,h=>h
 | 1,_,h=>h
 | 2,_,h=>h
 | 3,_,h=>ExV.sub h (Ov.stp ok s).sub
 | 4,_,h=>ExV.sub h (Ov.stp ok s).sub
 | 5,_,⟨b,e,h⟩=>⟨b,e,h.sub (Ov.stp ok s).sub⟩
 | 6,_,h=>h
 | 7,_,⟨b,e,h⟩=>⟨b,e,h.sub (Ov.stp ok s).sub⟩
 | 8,_,⟨b,e,h⟩=>⟨b,e,h.sub (Ov.stp ok s).sub⟩
 | 9,_,⟨b,e,h⟩=>⟨b,e,h.sub (Ov.stp ok s).sub⟩
 | 10,_,⟨b,b2,e,h,h2⟩=>⟨b,b2,e,h.sub (Ov.stp ok s).sub,h2.sub (Ov.stp ok s).sub⟩
 | 11,_,⟨T,x0,x1,x2,x3,x4,x5,x6,x7,e,hT,h⟩=>⟨T,x0,x1,x2,x3,x4,x5,x6,x7,e,hT,h.stp s⟩
 | 12,_,⟨T,b,b2,e,hT,h,k,k2⟩=>⟨T,b,b2,e,hT,h.stp s,k.sub (Ov.stp ok s).sub,k2.sub (Ov.stp ok s).sub⟩
 | _+13,_,h=>h
def fr33 (c:Dx) (R F E S:Nat) (y3:Value) (us:Nat→Value):List Value:=([.pointer (some ⟨c.G,0,none⟩),us 1,us 2,y3,us 4,us 5,us 6,us 7,.pointer (some ⟨R,0,none⟩),.pointer (some ⟨F,0,none⟩),us 10,us 11,us 12,us 13,us 14,us 15,.pointer (some ⟨E,0,none⟩),.pointer (some ⟨S,0,none⟩)]++tl us 18 193)
def I33 (c:Dx) (v:Gv) (g0:GS) (w0:World) (F R E S:Nat) (nm pv:Value) (rk rn:Int) (ps:List Pa) (d kv:Value) (n5:Nat) (y3:Value) (l:Array Bool) (a:Act) (w:World):Prop :=
 ∃ us g,l.size=13∧a={ tmps:=(fr33 c R F E S y3 us).toArray,defers:=[] }∧Pw c v g0 w0 F R E S nm pv rk rn ps d kv g w∧n5≤w.heap.size∧(l.getD 12 false=true→l.getD 11 false=true)∧∀ j,l.getD j false=true→Vl c g w n5 nm d kv j (us (sl j))
theorem zcw (l:Array Bool) (i j:Nat) (hi:i<l.size):(l.setIfInBounds i true).getD j false=if j=i then true else l.getD j false:=by
 rw[Array.getD_eq_getD_getElem?,Array.getD_eq_getD_getElem?,Array.getElem?_setIfInBounds];by_cases e:j=i
 ·subst e;simp[hi]
 ·rw[if_neg (fun q=>e q.symm),if_neg e]
theorem I33.put {c:Dx}{v:Gv}{g0:GS}{w0:World}{F R E S:Nat}{nm pv:Value}{rk rn:Int}{ps:List Pa}{d kv:Value}{n5:Nat}{y3:Value}{l:Array Bool}{us:Nat→Value}{g:GS}{w:World}(hsz:l.size=13) (pw:Pw c v g0 w0 F R E S nm pv rk rn ps d kv g w) (hn:n5≤w.heap.size) (h12:l.getD 12 false=true→l.getD 11 false=true) (hv:∀ j,l.getD j false=true→Vl c g w n5 nm d kv j (us (sl j))) (i:Nat) (hi:i<12) (u:Value) {g':GS}{w':World}(s:Stp g w g' w') (k:Gs c g' w' v) (hu:Vl c g' w' n5 nm d kv i u) (hd:∀ j,j≠i→l.getD j false=true→sl j≠sl i) (hf:({ tmps:=(fr33 c R F E S y3 us).toArray,defers:=[] }:Act).put (some (sl i)) u={ tmps:=(fr33 c R F E S y3 (updS us (sl i) u)).toArray,defers:=[] }):I33 c v g0 w0 F R E S nm pv rk rn ps d kv n5 y3 (l.setIfInBounds i true) (({ tmps:=(fr33 c R F E S y3 us).toArray,defers:=[] }:Act).put (some (sl i)) u) w':=by
 refine⟨_,g',by simpa using hsz,hf,pw.call s k,Nat.le_trans hn s.size,fun q=>?_,fun j hj=>?_⟩
 ·rw[zcw l i 12 (by omega),if_neg (by omega)]at q;rw[zcw l i 11 (by omega),h12 q];split <;> rfl
 rw[zcw l i j (by omega)]at hj;by_cases e:j=i
 ·subst e;simpa[updS] using hu
 ·rw[if_neg e]at hj;have:=Vl.stp pw.pf.zx.ec.gs.ok s (hv j hj);simpa[updS,hd j e hj] using this
theorem Vl.only {c:Dx}{g:GS}{w w':World}{n5:Nat}{nm d kv:Value}(o:Sub (mask g w) (mask g w')):∀ {j:Nat}{u:Value},Vl c g w n5 nm d kv j u→j≠11→j≠12→Vl c g w' n5 nm d kv j u
 | 0,_,h,_,_=>h
 | 1,_,h,_,_=>h
 | 2,_,h,_,_=>h
 | 3,_,h,_,_=>ExV.sub h o
 | 4,_,h,_,_=>ExV.sub h o
 | 5,_,⟨b,e,h⟩,_,_=>⟨b,e,h.sub o⟩
 | 6,_,h,_,_=>h
 | 7,_,⟨b,e,h⟩,_,_=>⟨b,e,h.sub o⟩
 | 8,_,⟨b,e,h⟩,_,_=>⟨b,e,h.sub o⟩
 | 9,_,⟨b,e,h⟩,_,_=>⟨b,e,h.sub o⟩
 | 10,_,⟨b,b2,e,h,h2⟩,_,_=>⟨b,b2,e,h.sub o,h2.sub o⟩
 | 11,_,_,q,_=>absurd rfl q
 | 12,_,_,_,q=>absurd rfl q
 | _+13,_,h,_,_=>h
theorem fn_B3 {c:Dx}{v:Gv}{g:GS}{w:World}{F R:Nat}{nm:Value}{rk rn:Int}(h0:w.heap.size≤F) (Q:Ending→World→Prop) {J0 K0:Act→World→Prop}(y3:Value) (ps:List Pa) (h4:ps.length≤4) (hJ0:∀ us w',(∃ (g1:GS) (nv tv xv pv bv:Value) (ps:List Pa) (l:List St) (ys:List Value) (n1:Nat),Pb c { v with nv:=nv,tv:=tv,xv:=xv,n:=n1,rk:=rk,rn:=rn } g w F R nm pv rk rn ps bv l ys g1 w'∧ps.length≤4∧l.length≤1∧n1≤4)→J0 { tmps:=([.pointer (some ⟨c.G,0,none⟩),us 1,us 2,y3,us 4,us 5,us 6,us 7,.pointer (some ⟨R,0,none⟩),.pointer (some ⟨F,0,none⟩)]++tl us 10 201).toArray,defers:=[] } w') (hK0:∀ a' w',Met J0 a' w'→K0 a' w') (E S:Nat) (a0:Option Addr) (n0 c0:Nat) (us:Nat→Value) (w5:World) (X:(∃ (g1:GS) (nv tv xv pv kv:Value) (l:List Ex) (xs:List Value),Pk c { v with nv:=nv,tv:=tv,xv:=xv,n:=ps.length,rk:=rk,rn:=rn } g w F R E S nm pv rk rn ps (.slice a0 n0 c0) kv l xs g1 w5∧l.length≤4)):Code.wp Tryz.prog fnB3 (Exit.then K0 (bodyPost Tryz.prog Tryz.f40 Q)) { tmps:=([.pointer (some ⟨c.G,0,none⟩),us 1,us 2,y3,us 4,us 5,us 6,us 7,.pointer (some ⟨R,0,none⟩),.pointer (some ⟨F,0,none⟩),us 10,us 11,us 12,us 13,us 14,us 15,.pointer (some ⟨E,0,none⟩),.pointer (some ⟨S,0,none⟩)]++tl us 18 193).toArray,defers:=[] } w5:=by
 obtain⟨g1,nv,tv,xv,pv,kv,l0,xs,pk,hl0⟩:=X;obtain⟨i0,hi0,hz0,hz1,hz2⟩:=info_parts Tryz.info92;have hEl:=pk.be.bx.lt;have hSl:=pk.bs.bx.lt;have hFl:=pk.pf.zx.b0.bx.lt;have hRl:=pk.pf.zx.b1.bx.lt
 have hpl:∀ b,pv.ownBlock=some b→b<w5.heap.size:=by
  obtain⟨_,rp⟩:=pk.pf.rw;exact fun b q=>(rp.row.lt b q).2
 obtain⟨g2,pw⟩:=pk.pw;obtain⟨na,nn,nc,hna⟩:=pw.pf.nm.slice;obtain⟨ka,kn,kc,hka⟩:=pw.ks.slice;subst hna hka;clear pk;show Code.wp _ (Code.seq _ _) _ _ _
 apply wp_seq_k
 intro K1 hK1;refine wp_region_held (S:=fun _=>True) (by kernel_rfl) ?_;refine anyH_inv (I33 c { v with nv:=nv,tv:=tv,xv:=xv,n:=ps.length,rk:=rk,rn:=rn } g w F R E S (.slice na nn nc) pv rk rn ps (.slice a0 n0 c0) (.slice ka kn kc) w5.heap.size y3) (fun _ _ _ _=>trivial) ?hend ?step _ _ _ _ (by kernel_rfl) ?start
 case start =>
  have s1:=(Stp.refl g2 w5).later (Later.drew w5);refine⟨us,g2,rfl,rfl,pw.call s1 (pw.pf.zx.ec.gs.later (Later.drew w5)),(Later.drew w5).size,fun q=>?_,fun j hj=>?_⟩
  ·cases q
  ·simp[Array.getD]at hj
 case step =>
  rintro l a w6 i o ⟨us6,g6,hsz,rfl,pw6,hn,h12,hv⟩ hi ho K hK;obtain⟨h1,h2,h3⟩:=zbz hi;have hgs:=pw6.pf.zx.ec.gs;have ok6:=hgs.ok
  have hne:∀ i,i<11→∀ j,j≠i→l.getD j false=true→sl j≠sl i:=by
   intro i hi j hj _;unfold sl;rw[if_pos hi];split <;> omega
  have hE3:ExS (mask g6 w6) 3 0 0 0 (.slice a0 n0 c0) (.slice none 0 0):=⟨pw6.dn,KsS.nil _,by unfold InR;omega⟩
  have hN:∀ z,InR z→ExS (mask g6 w6) 0 z 0 0 (.slice none 0 0) (.slice none 0 0):=fun z hz=>⟨NmS.nil _,KsS.nil _,hz⟩
  have h00:=pw6.h0
  have hnum:∀ (z:Int) w',Calls Tryz.prog 44 #[.int .i64 z] w' fun e w2=>∃ u,e=.returned u∧(u=.agg #[.int .i64 0,.int .i64 z,.int .i64 0,.int .i64 0,.slice none 0 0,.slice none 0 0]∧Later w' w2):=fun z w'=>(zbu z w').mono fun e w2 q=>⟨_,q.1,rfl,q.2⟩
  clear hi;have hc:i=0∨i=1∨i=2∨i=3∨i=4∨i=5∨i=6∨i=7∨i=8∨i=9∨i=10∨i=11∨i=12:=by have:i<13:=h1;omega
  rcases hc with rfl|rfl|rfl|rfl|rfl|rfl|rfl|rfl|rfl|rfl|rfl|rfl|rfl
  ·obtain rfl:=Option.some.inj ho;refine zaa rfl 44 zcy [.const (.int .i64 0)] _ rfl [.int .i64 0] rfl _ (hnum 0 w6) ?_;rintro u w7 ⟨rfl,lt⟩;exact hK _ _ (I33.put hsz pw6 hn h12 hv 0 (by decide) _ ((Stp.refl _ _).later lt) (hgs.later lt) rfl (hne 0 (by decide)) (by kernel_rfl))
  ·obtain rfl:=Option.some.inj ho;refine zag rfl _ _ (ex_load rfl (E:=E) (by kernel_rfl) pw6.be.bx) ?_;exact hK _ _ (I33.put hsz pw6 hn h12 hv 1 (by decide) _ (Stp.refl _ _) hgs rfl (hne 1 (by decide)) (by kernel_rfl))
  ·obtain rfl:=Option.some.inj ho;refine zaa rfl 44 zcy [.const (.int .i64 9)] _ rfl [.int .i64 9] rfl _ (hnum 9 w6) ?_;rintro u w7 ⟨rfl,lt⟩;exact hK _ _ (I33.put hsz pw6 hn h12 hv 2 (by decide) _ ((Stp.refl _ _).later lt) (hgs.later lt) rfl (hne 2 (by decide)) (by kernel_rfl))
  ·obtain rfl:=Option.some.inj ho;have hd:l.getD 1 false=true∧l.getD 2 false=true:=by simp[Region.binds]at h3;simp[h3]
   obtain⟨d1,d2⟩:=hd;have v1:us6 169=.agg #[.int .i64 3,.int .i64 0,.int .i64 0,.int .i64 0,.slice a0 n0 c0,.slice none 0 0]:=hv 1 d1;have v2:us6 170=.agg #[.int .i64 0,.int .i64 9,.int .i64 0,.int .i64 0,.slice none 0 0,.slice none 0 0]:=hv 2 d2;refine zaa rfl 61 zcf [.const (.int .i64 4),.tmp 169,.tmp 170] _ rfl [.int .i64 4,.agg #[.int .i64 3,.int .i64 0,.int .i64 0,.int .i64 0,.slice a0 n0 c0,.slice none 0 0],.agg #[.int .i64 0,.int .i64 9,.int .i64 0,.int .i64 0,.slice none 0 0,.slice none 0 0]] ?_ _ (AnsP.call (Later.refl _) (zbr hgs 4 3 0 0 0 0 9 0 0 (by unfold InR;omega) _ _ _ _ _ _ _ _ _ _ _ _ hE3 (hN 9 (by unfold InR;omega)))) ?_
   ·rw[←v1,← v2];kernel_rfl
   rintro u w7 ⟨g7,s7,k7,hu⟩;exact hK _ _ (I33.put hsz pw6 hn h12 hv 3 (by decide) _ s7 k7 hu (hne 3 (by decide)) (by kernel_rfl))
  ·obtain rfl:=Option.some.inj ho;have hd:l.getD 0 false=true∧l.getD 3 false=true:=by simp[Region.binds]at h3;simp[h3]
   obtain⟨d0,d3⟩:=hd;have v0:us6 168=.agg #[.int .i64 0,.int .i64 0,.int .i64 0,.int .i64 0,.slice none 0 0,.slice none 0 0]:=hv 0 d0;have v3:ExV (mask g6 w6) (us6 171):=hv 3 d3;obtain⟨xk,xn,xtk,xtn,xa0,xn0,xc0,xa1,xn1,xc1,e3,x3⟩:=v3;refine zaa rfl 61 zcf [.const (.int .i64 5),.tmp 168,.tmp 171] _ rfl [.int .i64 5,.agg #[.int .i64 0,.int .i64 0,.int .i64 0,.int .i64 0,.slice none 0 0,.slice none 0 0],.agg #[.int .i64 xk,.int .i64 xn,.int .i64 xtk,.int .i64 xtn,.slice xa0 xn0 xc0,.slice xa1 xn1 xc1]] ?_ _ (AnsP.call (Later.refl _) (zbr hgs 5 0 0 0 0 xk xn xtk xtn (by unfold InR;omega) _ _ _ _ _ _ _ _ _ _ _ _ (hN 0 (by unfold InR;omega)) x3)) ?_
   ·rw[←v0,← e3];kernel_rfl
   rintro u w7 ⟨g7,s7,k7,hu⟩;exact hK _ _ (I33.put hsz pw6 hn h12 hv 4 (by decide) _ s7 k7 hu (hne 4 (by decide)) (by kernel_rfl))
  ·obtain rfl:=Option.some.inj ho;have hd:l.getD 4 false=true:=by simpa[Region.binds] using h3
   have d4:=hd;have v4:ExV (mask g6 w6) (us6 172):=hv 4 d4;obtain⟨xk,xn,xtk,xtn,xa0,xn0,xc0,xa1,xn1,xc1,e3,x3⟩:=v4;refine zag rfl _ _ (ex_slice rfl ⟨_,_,_,rfl⟩ ⟨_,_,_,rfl⟩ ((by kernel_rfl:Act.eval { tmps:=(fr33 c R F E S y3 us6).toArray,defers:=[] } (.tmp 172)=us6 172).trans e3) w6) ?_;obtain⟨g7,e7,_,k7⟩:=(Ec.start hgs).list1 rfl x3;exact hK _ _ (I33.put hsz pw6 hn h12 hv 5 (by decide) _ e7.st e7.gs ⟨_,rfl,k7⟩ (hne 5 (by decide)) (by kernel_rfl))
  ·obtain rfl:=Option.some.inj ho;refine zag rfl _ _ (ex_load rfl (E:=S) (by kernel_rfl) pw6.bs.bx) ?_;exact hK _ _ (I33.put hsz pw6 hn h12 hv 6 (by decide) _ (Stp.refl _ _) hgs rfl (hne 6 (by decide)) (by kernel_rfl))
  ·obtain rfl:=Option.some.inj ho;have hd:l.getD 6 false=true:=by simpa[Region.binds] using h3
   have d6:=hd;have v6:us6 174=.agg #[.int .i64 6,.int .i64 0,.int .i64 0,.int .i64 0,.slice na nn nc,.slice ka kn kc]:=hv 6 d6;refine zag rfl _ _ (ex_slice rfl ⟨_,_,_,rfl⟩ ⟨_,_,_,rfl⟩ ((by kernel_rfl:Act.eval { tmps:=(fr33 c R F E S y3 us6).toArray,defers:=[] } (.tmp 174)=us6 174).trans v6) w6) ?_;obtain⟨g7,e7,_,k7⟩:=(Ec.start hgs).list1 rfl (k1:=6) (n1:=0) (tk1:=0) (tn1:=0) ⟨pw6.pf.nm,pw6.ks,by unfold InR;omega⟩;exact hK _ _ (I33.put hsz pw6 hn h12 hv 7 (by decide) _ e7.st e7.gs ⟨_,rfl,k7⟩ (hne 7 (by decide)) (by kernel_rfl))
  ·obtain rfl:=Option.some.inj ho;have hd:l.getD 7 false=true:=by simpa[Region.binds] using h3
   have d7:=hd;obtain⟨b,e,k⟩:∃ b,us6 175=.slice (some ⟨b,0,none⟩) 1 1∧KsS (mask g6 w6) (.slice (some ⟨b,0,none⟩) 1 1):=hv 7 d7;refine zag rfl _ _ (ex_buildA rfl rfl ((by kernel_rfl:Act.eval { tmps:=(fr33 c R F E S y3 us6).toArray,defers:=[] } (.tmp 175)=us6 175).trans e) w6) ?_;exact hK _ _ (I33.put hsz pw6 hn h12 hv 8 (by decide) _ (Stp.refl _ _) hgs ⟨b,rfl,k⟩ (hne 8 (by decide)) (by kernel_rfl))
  ·obtain rfl:=Option.some.inj ho;have hd:l.getD 8 false=true:=by simpa[Region.binds] using h3
   have d8:=hd;obtain⟨b,e,k⟩:∃ b,us6 176=.agg #[.int .i64 4,.int .i64 0,.int .i64 0,.int .i64 0,.slice none 0 0,.slice (some ⟨b,0,none⟩) 1 1,.slice none 0 0,.slice none 0 0]∧KsS (mask g6 w6) (.slice (some ⟨b,0,none⟩) 1 1):=hv 8 d8;refine zag rfl _ _ (ex_sliceS rfl ⟨_,_,_,rfl⟩ ⟨_,_,_,rfl⟩ ((by kernel_rfl:Act.eval { tmps:=(fr33 c R F E S y3 us6).toArray,defers:=[] } (.tmp 176)=us6 176).trans e) w6) ?_;have lt:=later1 w6 (.cells #[.int .i64 4,.int .i64 0,.int .i64 0,.int .i64 0,.slice none 0 0,.slice (some ⟨b,0,none⟩) 1 1,.slice none 0 0,.slice none 0 0] 92);have e7:=((Ec.start hgs).later lt).seal2 (b:=w6.heap.size) (by rw[World.size_alloc];omega) hgs.new.2.1 (Nat.le_refl _);have k7:KsS (mask (g6.seal w6.heap.size) _) (.slice (some ⟨b,0,none⟩) 1 1):=k.sub (Ov.stp ok6 e7.st).sub;have b7:=BoS.one (g:=g6.seal w6.heap.size) (b:=w6.heap.size) (k:=4) (n:=0) (tk:=0) (tn:=0) (Bxx.new w6 #[.int .i64 4,.int .i64 0,.int .i64 0,.int .i64 0,.slice none 0 0,.slice (some ⟨b,0,none⟩) 1 1,.slice none 0 0,.slice none 0 0] 92) ((g6.sealed _ _).2 (.inr rfl)) ⟨NmS.nil _,k7,BoS.nil _,BoS.nil _,by unfold InR;omega⟩;exact hK _ _ (I33.put hsz pw6 hn h12 hv 9 (by decide) _ e7.st e7.gs ⟨_,rfl,b7⟩ (hne 9 (by decide)) (by kernel_rfl))
  ·obtain rfl:=Option.some.inj ho;have hd:l.getD 5 false=true∧l.getD 9 false=true:=by simpa[Region.binds] using h3
   obtain⟨d5,d9⟩:=hd;obtain⟨b,e,k⟩:∃ b,us6 173=.slice (some ⟨b,0,none⟩) 1 1∧KsS (mask g6 w6) (.slice (some ⟨b,0,none⟩) 1 1):=hv 5 d5;obtain⟨b2,e2,k2⟩:∃ b,us6 177=.slice (some ⟨b,0,none⟩) 1 1∧BoS (mask g6 w6) (.slice (some ⟨b,0,none⟩) 1 1):=hv 9 d9;refine zag rfl _ _ (ex_buildB rfl rfl ((by kernel_rfl:Act.eval { tmps:=(fr33 c R F E S y3 us6).toArray,defers:=[] } (.tmp 173)=us6 173).trans e) ((by kernel_rfl:Act.eval { tmps:=(fr33 c R F E S y3 us6).toArray,defers:=[] } (.tmp 177)=us6 177).trans e2) w6) ?_;exact hK _ _ (I33.put hsz pw6 hn h12 hv 10 (by decide) _ (Stp.refl _ _) hgs ⟨b,b2,rfl,k,k2⟩ (hne 10 (by decide)) (by kernel_rfl))
  ·obtain rfl:=Option.some.inj ho;refine zag rfl _ _ (ex_alloc rfl w6) ?_;have lt:=later1 w6 (.cells #[.int .i64 0,.int .i64 0,.int .i64 0,.int .i64 0,.slice none 0 0,.slice none 0 0,.slice none 0 0,.slice none 0 0] 92);refine hK _ _ (I33.put hsz pw6 hn h12 hv 11 (by decide) _ ((Stp.refl _ _).later lt) (hgs.later lt) ⟨_,_,_,_,_,_,_,_,_,rfl,hn,Lb.new hgs [.int .i64 0,.int .i64 0,.int .i64 0,.int .i64 0,.slice none 0 0,.slice none 0 0,.slice none 0 0,.slice none 0 0] 92⟩ (fun j q1 q2=>?_) (by kernel_rfl));by_cases q3:j<11
   ·unfold sl;rw[if_pos q3,if_neg (by omega)];omega
   ·exfalso;by_cases q4:j=12
    ·subst q4;have:=h12 q2;simp[Array.getD,hsz]at this h2;rw[this]at h2;cases h2
    ·have q5:=hv j q2
     obtain⟨j2,rfl⟩:∃ j2,j=j2+13:=⟨j - 13,by omega⟩
     exact q5
  ·have ho:=Option.some.inj ho;have hop:o.op=Op.store 92 (.tmp 19) (.tmp 178):=by rw[←ho];rfl
   have hd:l.getD 11 false=true∧l.getD 10 false=true:=by simp[Region.binds]at h3;simp[h3]
   obtain⟨d11,d10⟩:=hd;obtain⟨b,b2,e,k,k2⟩:∃ b b2,us6 178=.agg #[.int .i64 2,.int .i64 0,.int .i64 0,.int .i64 0,.slice none 0 0,.slice (some ⟨b,0,none⟩) 1 1,.slice (some ⟨b2,0,none⟩) 1 1,.slice none 0 0]∧KsS (mask g6 w6) (.slice (some ⟨b,0,none⟩) 1 1)∧BoS (mask g6 w6) (.slice (some ⟨b2,0,none⟩) 1 1):=hv 10 d10;obtain⟨T,x0,x1,x2,x3,x4,x5,x6,x7,e2,hT,hb⟩:∃ T x0 x1 x2 x3 x4 x5 x6 x7,us6 19=.pointer (some ⟨T,0,none⟩)∧w5.heap.size≤T∧Lb c g6 w6 T [x0,x1,x2,x3,x4,x5,x6,x7]:=hv 11 d11;obtain⟨w7,hr,o7,b7⟩:=ex_store hop ((by kernel_rfl:Act.eval { tmps:=(fr33 c R F E S y3 us6).toArray,defers:=[] } (.tmp 19)=us6 19).trans e2) ((by kernel_rfl:Act.eval { tmps:=(fr33 c R F E S y3 us6).toArray,defers:=[] } (.tmp 178)=us6 178).trans e) hb.bx;refine step_skip (by rw[←ho];rfl) (by rw[←ho];rfl) w7 hr (hK _ _ ?_);have ov:=(Ov.only ok6 o7 hb.s).sub
   have hb7:Lb c g6 w7 T [.int .i64 2,.int .i64 0,.int .i64 0,.int .i64 0,.slice none 0 0,.slice (some ⟨b,0,none⟩) 1 1,.slice (some ⟨b2,0,none⟩) 1 1,.slice none 0 0]:=⟨b7,hb.s,hb.d,hb.hi⟩
   refine⟨us6,g6,by simpa using hsz,rfl,⟨pw6.pf.only o7 hb (by omega) (by omega) (by omega) (fun q=>by have:=hpl T q;omega),pw6.be.only o7 (by omega),pw6.bs.only o7 (by omega),pw6.dn.sub ov,pw6.ks.sub ov,pw6.h0⟩,Nat.le_trans hn o7.size,fun _=>?_,fun j hj=>?_⟩
   ·rw[zcw l 12 11 (by omega),d11];rfl
   rw[zcw l 12 j (by omega)]at hj;by_cases q:j=12
   ·subst q;exact⟨T,b,b2,e2,hT,hb7,k.sub ov,k2.sub ov⟩
   rw[if_neg q]at hj;by_cases q2:j=11
   ·subst q2;exact⟨T,_,_,_,_,_,_,_,_,e2,hT,hb7⟩
   exact Vl.only ov (hv j hj) q2 q
 case hend =>
  rintro l a w6 ⟨us6,g6,hsz,rfl,pw6,hn,h12,hv⟩ h0r;have t0:l.getD 0 false=true:=zaj h0r hsz (by decide) (by simp[Region.binds]);have s0:l[0]?.getD false=true:=by simpa using t0
  have t1:l.getD 1 false=true:=zaj h0r hsz (by decide) (by simp[Region.binds]);have s1:l[1]?.getD false=true:=by simpa using t1
  have t2:l.getD 2 false=true:=zaj h0r hsz (by decide) (by simp[Region.binds,s0]);have s2:l[2]?.getD false=true:=by simpa using t2
  have t3:l.getD 3 false=true:=zaj h0r hsz (by decide) (by simp[Region.binds,s1,s2]);have s3:l[3]?.getD false=true:=by simpa using t3
  have t4:l.getD 4 false=true:=zaj h0r hsz (by decide) (by simp[Region.binds,s0,s3]);have s4:l[4]?.getD false=true:=by simpa using t4
  have t5:l.getD 5 false=true:=zaj h0r hsz (by decide) (by simp[Region.binds,s4]);have s5:l[5]?.getD false=true:=by simpa using t5
  have t6:l.getD 6 false=true:=zaj h0r hsz (by decide) (by simp[Region.binds]);have s6:l[6]?.getD false=true:=by simpa using t6
  have t7:l.getD 7 false=true:=zaj h0r hsz (by decide) (by simp[Region.binds,s6]);have s7:l[7]?.getD false=true:=by simpa using t7
  have t8:l.getD 8 false=true:=zaj h0r hsz (by decide) (by simp[Region.binds,s7]);have s8:l[8]?.getD false=true:=by simpa using t8
  have t9:l.getD 9 false=true:=zaj h0r hsz (by decide) (by simp[Region.binds,s8]);have s9:l[9]?.getD false=true:=by simpa using t9
  have t10:l.getD 10 false=true:=zaj h0r hsz (by decide) (by simp[Region.binds,s5,s9]);have s10:l[10]?.getD false=true:=by simpa using t10
  have t11:l.getD 11 false=true:=zaj h0r hsz (by decide) (by simp[Region.binds]);have s11:l[11]?.getD false=true:=by simpa using t11
  have t12:l.getD 12 false=true:=zaj h0r hsz (by decide) (by simp[Region.binds,s0,s1,s2,s3,s4,s5,s6,s7,s8,s9,s10,s11]);obtain⟨T,b,b2,e,hT,hb,k,k2⟩:∃ T b b2,us6 19=.pointer (some ⟨T,0,none⟩)∧w5.heap.size≤T∧Lb c g6 w6 T [.int .i64 2,.int .i64 0,.int .i64 0,.int .i64 0,.slice none 0 0,.slice (some ⟨b,0,none⟩) 1 1,.slice (some ⟨b2,0,none⟩) 1 1,.slice none 0 0]∧KsS (mask g6 w6) (.slice (some ⟨b,0,none⟩) 1 1)∧BoS (mask g6 w6) (.slice (some ⟨b2,0,none⟩) 1 1):=hv 12 t12;clear t0 t1 t2 t3 t4 t5 t6 t7 t8 t9 t10 t11 t12 s0 s1 s2 s3 s4 s5 s6 s7 s8 s9 s10 s11 h0r hsz hv h12 pw
  have PB:Hid (Pb c { v with nv:=nv,tv:=tv,xv:=xv,n:=ps.length,rk:=rk,rn:=rn } g w F R (.slice na nn nc) pv rk rn ps (.slice none 0 0) [] [] g6 w6):=⟨pw6.pf,Rw.nil _ _ _ _ _,trivial,fun b q=>(by intro q2;cases q2),h0⟩
  have HS:Hid (StS (mask g6 w6) 2 0 0 0 (.slice none 0 0) (.slice (some ⟨b,0,none⟩) 1 1) (.slice (some ⟨b2,0,none⟩) 1 1) (.slice none 0 0)):=⟨NmS.nil _,k,k2,BoS.nil _,by unfold InR;omega⟩
  obtain⟨⟨⟨qa0,f0⟩,⟨qa1,f1⟩,⟨qa2,f2⟩,⟨qa3,f3⟩,⟨qa4,f4⟩⟩,qal⟩:=pw6.pf.zx.b0.bx.c5;obtain⟨⟨⟨p0,_⟩,⟨p1,_⟩,⟨p2,_⟩,⟨p3,_⟩,⟨p4,_⟩,⟨p5,_⟩,⟨p6,_⟩,⟨p7,_⟩⟩,pl⟩:=hb.bx.c8;have hF6:F+1≤w6.heap.size:=by omega
  clear pw6 k k2 hb;show Exit.then K1 _ .normal _ _
  refine hK1 _ _ ?_;unfold fr33;dsimp only [List.cons_append,List.nil_append,tl,Nat.reduceAdd];rw[e];clear e;go_wp2_with (at_builtin;refine wpList_append_own_at _ rfl _ _ 71 rfl (F+1) 92 i0 (.agg #[.int .i64 0,.int .i64 0,.int .i64 0,.int .i64 0,.slice none 0 0,.slice none 0 0,.slice none 0 0,.slice none 0 0]) 8 128 Tryz.underlying71 hi0 hz0 hz1 hz2 rfl (by decide) _ 0 [] rfl (World.ownsRow_nil _ _ _ _) _ 1 1 [.int .i64 2,.int .i64 0,.int .i64 0,.int .i64 0,.slice none 0 0,.slice (some ⟨b,0,none⟩) 1 1,.slice (some ⟨b2,0,none⟩) 1 1,.slice none 0 0] rfl rfl (zao _ _ _ (by simp)) (by simp[Value.oneCell']) (by unfold maxLen;omega) (by omega) (Nat.le_trans hF6 (later1 _ _).size) ?_;intro v9 w9 o9 g9 _ h9;obtain⟨va9,vc9,hv9⟩:=zac o9;subst hv9;obtain⟨x9,hx9,rx9⟩:=(HS.out.sub (Ov.later PB.out.pf.zx.ec.gs.ok (later1 w6 (.cells #[.int .i64 2,.int .i64 0,.int .i64 0,.int .i64 0,.slice none 0 0,.slice (some ⟨b,0,none⟩) 1 1,.slice (some ⟨b2,0,none⟩) 1 1,.slice none 0 0] 92))).sub).rd;obtain⟨p9,b9⟩:=(PB.out.later (later1 w6 (.cells #[.int .i64 2,.int .i64 0,.int .i64 0,.int .i64 0,.slice none 0 0,.slice (some ⟨b,0,none⟩) 1 1,.slice (some ⟨b2,0,none⟩) 1 1,.slice none 0 0] 92))).push (l5:=[x9]) (by rw[St.dats,St.dats];exact ElS.one rfl rx9) ⟨hx9,trivial⟩ o9 g9 h9 rfl;obtain⟨⟨⟨qb0,j0⟩,⟨qb1,j1⟩,⟨qb2,j2⟩,⟨qb3,j3⟩,⟨qb4,j4⟩⟩,qbl⟩:=b9.c5;have P9:Hid _:=p9;clear p9 b9 HS PB)
  have HM:Hid (∃ (g1:GS) (nv tv xv pv bv:Value) (ps:List Pa) (l:List St) (ys:List Value) (n1:Nat),Pb c { v with nv:=nv,tv:=tv,xv:=xv,n:=n1,rk:=rk,rn:=rn } g w F R (.slice na nn nc) pv rk rn ps bv l ys g1 _∧ps.length≤4∧l.length≤1∧n1≤4):=⟨g6,nv,tv,xv,pv,_,ps,_,_,ps.length,P9.out,h4,by simp,h4⟩
  clear P9;go_wp2_with fail
  exact meetG hJ0 rfl HM.out
noncomputable def fnC:Code:=rt (rt (rt (rt (rt (rt (rt (Tryz.f40.body.getD .skip)))))))
theorem fn_C {c:Dx}{v:Gv}{g g2:GS}{w w2:World}{F R:Nat}{nm pv nv tv xv bv:Value}{n1:Nat}{rk rn:Int}{ps:List Pa}{l:List St}{ys:List Value}(X2:Hid (Pb c { v with nv:=nv,tv:=tv,xv:=xv,n:=n1,rk:=rk,rn:=rn } g w F R nm pv rk rn ps bv l ys g2 w2)) (hp:ps.length≤4) (hl:l.length≤1) (hn:n1≤4) (sz:Nat) (hsz:sz≤1000) (Q:Ending→World→Prop) (HZ:Hid (∀ u w',FunR c v g w u w'→Q (.returned u) w')) (us:Nat→Value) (y1 y2:Value):Code.wp Tryz.prog fnC (bodyPost Tryz.prog Tryz.f40 Q) { tmps:=([.pointer (some ⟨c.G,0,none⟩),y1,y2,.int .i64 (sz:Int),us 4,us 5,us 6,us 7,.pointer (some ⟨R,0,none⟩),.pointer (some ⟨F,0,none⟩)]++tl us 10 201).toArray,defers:=[] } w2:=by
 obtain⟨i0,hi0,hz0,hz1,hz2⟩:=info_parts Tryz.info92;show Code.wp _ (Code.seq _ _) _ _ _;dsimp only [List.cons_append,List.nil_append,tl,Nat.reduceAdd];have HMo:Hid (∀ w',Later w2 w'→Calls Tryz.prog 62 #[.pointer (some ⟨c.G,0,none⟩),.int .i64 (sz:Int)] w' fun e w3=>∃ u,e=.returned u∧StsR c { v with nv:=nv,tv:=tv,xv:=xv,n:=n1,rk:=rk,rn:=rn } g2 w' n1 (n1+sz) (2*sz) u w3):=fun w' q=>more_any (X2.out.later q).pf.zx.ec.gs sz (by show n1+_+_≤_;omega);have hrow:=X2.out.rb.row;rw[St.dats_len]at hrow;obtain⟨ba,bc,hba⟩:=zac hrow;subst hba;obtain⟨⟨⟨qa0,f0⟩,⟨qa1,f1⟩,⟨qa2,f2⟩,⟨qa3,f3⟩,⟨qa4,f4⟩⟩,qal⟩:=X2.out.pf.zx.b0.bx.c5;go_upto_region 35 with fail
 go_cut [] from 185 to 191 (fun wx=>∃ (gx:GS) (nvx tvx xvx bvx:Value) (nx:Nat) (lx:List St) (yx:List Value),lx.length≤2001∧Pb c { v with nv:=nvx,tv:=tvx,xv:=xvx,n:=nx,rk:=rk,rn:=rn } g w F R nm pv rk rn ps bvx lx yx gx wx)
 case first =>
  go_region_law (first
   | (refine zaa rfl 62 en_more _ _ rfl [.pointer (some ⟨c.G,0,none⟩),.int .i64 (sz:Int)] rfl _ (HMo.out _ (Later.drew _)) ?_;rintro u6 w6 ⟨g6,nv6,tv6,xv6,n6,l6,y6,s6,k6,lo6,hi6,r6,d6,len6⟩;have p6:=(X2.out.later (Later.drew w2)).call s6 k6;have row6:=p6.rb.row;rw[St.dats_len]at row6;have r6r:=r6.row;rw[St.dats_len]at r6r;have o6:=St.cellsAll l6 r6.el;have bs6:F+1≤w6.heap.size:=p6.pf.zx.lt0;obtain⟨⟨⟨qb0,j0⟩,⟨qb1,j1⟩,⟨qb2,j2⟩,⟨qb3,j3⟩,⟨qb4,j4⟩⟩,qbl⟩:=p6.pf.zx.b0.bx.c5)
   | (refine step_append_row rfl _ _ 71 rfl (F+1) 92 i0 (.agg #[.int .i64 0,.int .i64 0,.int .i64 0,.int .i64 0,.slice none 0 0,.slice none 0 0,.slice none 0 0,.slice none 0 0]) 8 128 Tryz.underlying71 hi0 hz0 hz1 hz2 rfl (by decide) _ _ _ rfl row6 _ l6.length _ y6 rfl r6r o6 (by unfold maxLen;omega) (by omega) bs6 ?_;intro v7 w7 o7 g7 h7;obtain⟨a7,c7,hv7⟩:=zac o7;subst hv7;obtain⟨p7,b7⟩:=p6.push r6.el d6 o7 g7 h7 rfl;obtain⟨⟨⟨qc0,i0⟩,⟨qc1,i1⟩,⟨qc2,i2⟩,⟨qc3,i3⟩,⟨qc4,i4⟩⟩,qcl⟩:=b7.c5))
  all_goals
   have HM:Hid (∃ (gx:GS) (nvx tvx xvx bvx:Value) (nx:Nat) (lx:List St) (yx:List Value),lx.length≤2001∧Pb c { v with nv:=nvx,tv:=tvx,xv:=xvx,n:=nx,rk:=rk,rn:=rn } g w F R nm pv rk rn ps bvx lx yx gx (w7.setCell ⟨F,4,none⟩ (.slice a7 (l.length+l6.length) c7))):=⟨g6,nv6,tv6,xv6,_,n6,l++l6,_,by rw[List.length_append];omega,p7⟩
   clear p7 p6 X2 HMo HZ s6 k6 r6 o6 row6 r6r d6 o7 g7 h7 hrow b7;go_wp2_with fail
   go_meet
   case rel=>exact HM.out
 case rest =>
  obtain⟨gx,nvx,tvx,xvx,bvx,nx,lx,yx,hlx,px⟩:=hcut
  generalize wc=w3 at *
  clear X2 HMo hrow qa0 f0 qa1 f1 qa2 f2 qa3 f3 qa4 f4 qal;have hrow:=px.rb.row;rw[St.dats_len]at hrow;obtain⟨ba,bc,hba⟩:=zac hrow;subst hba;have hnm:=px.pf.nm;obtain⟨na,nn,nc,hna⟩:=hnm.slice;obtain⟨xp,rp⟩:=px.pf.rw;have rpr:=rp.row;rw[Pa.dats_len]at rpr;obtain⟨pa,pc,hpa⟩:=zac rpr;subst hna hpa;clear hnm rp rpr hrow;have X3:Hid (Pb c { v with nv:=nvx,tv:=tvx,xv:=xvx,n:=nx,rk:=rk,rn:=rn } g w F R (.slice na nn nc) (.slice pa ps.length pc) rk rn ps (.slice ba lx.length bc) lx yx gx w3):=px;go_upto_region 36 with fail
  go_cut [202] from 192 to 202 (fun sb wx=>∃ (b:Bool) (gy:GS),sb=.bool b∧Pb c { v with nv:=nvx,tv:=tvx,xv:=xvx,n:=nx,rk:=rk,rn:=rn } g w F R (.slice na nn nc) (.slice pa ps.length pc) rk rn ps (.slice ba lx.length bc) lx yx gy wx)
  case first =>
   have cg:=px.pf.zx.g0;have HO:=zce px.pf.zx.ec.gs 5 (by decide) (by decide);obtain⟨⟨⟨qa0,f0⟩,⟨qa1,f1⟩,⟨qa2,f2⟩,⟨qa3,f3⟩,⟨qa4,f4⟩⟩,qal⟩:=px.pf.zx.b0.bx.c5;clear px;by_cases hk:rk=0
   ·have i1:(rk != 0)=false:=by simp[hk]
    have i2:(rk==0)=true:=by simp[hk]
    have i3:(!(rk==0))=false:=by simp[hk]
    clear hk;go_wp2_with fail
    refine HO.mono ?_;rintro e w4 ⟨_,rfl,g4,s4,k4,b,rfl⟩
    have HM:Hid (∃ (b':Bool) (gy:GS),Value.bool b=.bool b'∧Pb c { v with nv:=nvx,tv:=tvx,xv:=xvx,n:=nx,rk:=rk,rn:=rn } g w F R (.slice na nn nc) (.slice pa ps.length pc) rk rn ps (.slice ba lx.length bc) lx yx gy w4):=⟨_,_,rfl,X3.out.call s4 k4⟩
    clear HO s4 k4 X3;go_wp2_with fail
    go_meet
    case rel=>exact HM.out
   ·have i1:(rk != 0)=true:=by simpa using hk
    have i2:(rk==0)=false:=by simpa using hk
    have i3:(!(rk==0))=true:=by simp[hk]
    clear hk
    have HM:Hid (∃ (b':Bool) (gy:GS),Value.bool true=.bool b'∧Pb c { v with nv:=nvx,tv:=tvx,xv:=xvx,n:=nx,rk:=rk,rn:=rn } g w F R (.slice na nn nc) (.slice pa ps.length pc) rk rn ps (.slice ba lx.length bc) lx yx gy w3):=⟨_,_,rfl,X3.out⟩
    clear HO X3;go_wp2_with fail
    go_meet
    case rel=>exact HM.out
  case rest =>
   obtain⟨b,gy,rfl,py⟩:=hcut
   generalize wc=w4 at *
   clear px X3
   cases b with
   | false =>
    obtain⟨W,hW,bW,HF⟩:=py.fin hp rfl rfl rfl;have HF:=HZ.out _ _ HF.out;obtain⟨⟨⟨qa0,f0⟩,⟨qa1,f1⟩,⟨qa2,f2⟩,⟨qa3,f3⟩,⟨qa4,f4⟩⟩,qal⟩:=py.pf.zx.b0.bx.c5;obtain⟨⟨⟨qr0,r0⟩,⟨qr1,r1⟩,⟨qr2,r2⟩,⟨qr3,r3⟩,⟨qr4,r4⟩⟩,qrl⟩:=py.pf.zx.b1.bx.c5;have hne:=py.pf.ne;obtain⟨⟨⟨e0,_⟩,⟨e1,_⟩,⟨e2,_⟩,⟨e3,_⟩,⟨e4,_⟩⟩,_⟩:=bW.c5;clear py HZ bW;go_wp2_with fail
    rw[←hW.out];exact bodyPost_ret (v:=.agg #[.slice na nn nc,.slice pa ps.length pc,.int .i64 rk,.int .i64 rn,.slice ba lx.length bc]) (by simp[results,Tryz.results40,go_sem,e0,e1,e2,e3,e4]) rfl HF
   | true =>
    have HLa:Hid (∀ w',Later w4 w'→Calls Tryz.prog 63 #[.pointer (some ⟨c.G,0,none⟩)] w' fun e w3=>∃ u,e=.returned u∧CallR c { v with nv:=nvx,tv:=tvx,xv:=xvx,n:=nx,rk:=rk,rn:=rn } gy w4 StV u w3):=fun w' q=>AnsP.call q (last_any ex_all (py.later q).pf.zx.ec.gs);have X4:Hid (Pb c { v with nv:=nvx,tv:=tvx,xv:=xvx,n:=nx,rk:=rk,rn:=rn } g w F R (.slice na nn nc) (.slice pa ps.length pc) rk rn ps (.slice ba lx.length bc) lx yx gy w4):=py;obtain⟨⟨⟨qa0,f0⟩,⟨qa1,f1⟩,⟨qa2,f2⟩,⟨qa3,f3⟩,⟨qa4,f4⟩⟩,qal⟩:=py.pf.zx.b0.bx.c5;clear py;go_upto_region 37 with fail
    go_region_law (first
     | (refine zaa rfl 63 en_last _ _ rfl [.pointer (some ⟨c.G,0,none⟩)] rfl _ (HLa.out _ (Later.drew _)) ?_;rintro u6 w6 ⟨g6,s6,k6,sk,sn,stk,stn,sa0,sn0,sc0,sa1,sn1,sc1,sa2,sn2,sc2,sa3,sn3,sc3,rfl,hst⟩;have p6:=X4.out.call s6 k6;have row6:=p6.rb.row;rw[St.dats_len]at row6;have bs6:F+1≤w6.heap.size:=p6.pf.zx.lt0;obtain⟨⟨⟨qb0,j0⟩,⟨qb1,j1⟩,⟨qb2,j2⟩,⟨qb3,j3⟩,⟨qb4,j4⟩⟩,qbl⟩:=p6.pf.zx.b0.bx.c5)
     | (refine zae rfl _ _ 71 rfl (F+1) 92 i0 (.agg #[.int .i64 0,.int .i64 0,.int .i64 0,.int .i64 0,.slice none 0 0,.slice none 0 0,.slice none 0 0,.slice none 0 0]) 8 128 Tryz.underlying71 hi0 hz0 hz1 hz2 rfl (by decide) _ _ _ rfl (row6.alloc _) _ 1 1 [.int .i64 sk,.int .i64 sn,.int .i64 stk,.int .i64 stn,.slice sa0 sn0 sc0,.slice sa1 sn1 sc1,.slice sa2 sn2 sc2,.slice sa3 sn3 sc3] rfl rfl (zao _ _ _ rfl) (by simp[Value.oneCell']) (by unfold maxLen;omega) (by omega) (Nat.le_trans bs6 (later1 _ _).size) ?_;intro v7 w7 o7 g7 h7;obtain⟨a7,c7,hv7⟩:=zac o7;subst hv7;obtain⟨x7,hx7,rx7⟩:=(hst.sub (Ov.later p6.pf.zx.ec.gs.ok (later1 w6 (.cells #[.int .i64 sk,.int .i64 sn,.int .i64 stk,.int .i64 stn,.slice sa0 sn0 sc0,.slice sa1 sn1 sc1,.slice sa2 sn2 sc2,.slice sa3 sn3 sc3] 92))).sub).rd;obtain⟨p7,b7⟩:=(p6.later (later1 w6 (.cells #[.int .i64 sk,.int .i64 sn,.int .i64 stk,.int .i64 stn,.slice sa0 sn0 sc0,.slice sa1 sn1 sc1,.slice sa2 sn2 sc2,.slice sa3 sn3 sc3] 92))).push (l5:=[x7]) (by rw[St.dats,St.dats];exact ElS.one rfl rx7) ⟨hx7,trivial⟩ o7 g7 h7 rfl;obtain⟨⟨⟨qc0,i0⟩,⟨qc1,i1⟩,⟨qc2,i2⟩,⟨qc3,i3⟩,⟨qc4,i4⟩⟩,qcl⟩:=b7.c5))
    all_goals
     obtain⟨W,hW,bW,HF⟩:=p7.fin hp rfl rfl rfl;have HF:=HZ.out _ _ HF.out;obtain⟨⟨⟨qr0,r0⟩,⟨qr1,r1⟩,⟨qr2,r2⟩,⟨qr3,r3⟩,⟨qr4,r4⟩⟩,qrl⟩:=p7.pf.zx.b1.bx.c5;have hne:=p7.pf.ne;obtain⟨⟨⟨e0,_⟩,⟨e1,_⟩,⟨e2,_⟩,⟨e3,_⟩,⟨e4,_⟩⟩,_⟩:=bW.c5;clear p7 p6 X4 HLa HZ s6 k6 row6 hst o7 g7 h7 b7 rx7 hx7 bW;go_wp2_with fail
     rw[←hW.out];exact bodyPost_ret (v:=.agg #[.slice na nn nc,.slice pa ps.length pc,.int .i64 rk,.int .i64 rn,.slice a7 (lx.length+1) c7]) (by simp[results,Tryz.results40,go_sem,e0,e1,e2,e3,e4]) rfl HF
theorem zbb {P:Program}{s:Code}{Q:Exit→Act→World→Prop}{T':List Value}{D:List Deferred}{w:World}{f:(Nat→Value)→List Value}(h:∀ us,s.wp P Q { tmps:=(f us).toArray,defers:=D } w) (e:T'=f (fun i=>T'.getD i undef)):s.wp P Q { tmps:=T'.toArray,defers:=D } w:=by
 rw[e];exact h _
noncomputable def fnH:Code:=rt (rt (rt (rt (Tryz.f40.body.getD .skip))))
noncomputable def fnH2:Code:=rt (rt (rt (rt (rt (Tryz.f40.body.getD .skip)))))
noncomputable def fnH3:Code:=rt (rt (rt (rt (rt (rt (Tryz.f40.body.getD .skip))))))
theorem fn_H3 {c:Dx}{v:Gv}{g g2:GS}{w w2:World}{F R:Nat}{nm pv nv tv xv:Value}{rk rn:Int}{ps:List Pa}{k0:Nat}(X2:Hid (Pf c { v with nv:=nv,tv:=tv,xv:=xv,n:=k0,rk:=rk,rn:=rn } g w F R nm pv rk rn (.slice none 0 0) ps g2 w2)) (hps:ps.length=k0) (hk:k0≤3) (h0:w.heap.size≤F) (main b:Bool) (sz:Nat) (hsz:sz≤1000) (Q:Ending→World→Prop) (HZ:Hid (∀ u w',FunR c v g w u w'→Q (.returned u) w')) (us:Nat→Value):Code.wp Tryz.prog fnH3 (bodyPost Tryz.prog Tryz.f40 Q) { tmps:=([.pointer (some ⟨c.G,0,none⟩),nm,.bool main,.int .i64 (sz:Int),us 4,us 5,us 6,us 7,.pointer (some ⟨R,0,none⟩),.pointer (some ⟨F,0,none⟩),us 10,us 11,us 12,.bool b]++tl us 14 197).toArray,defers:=[] } w2:=by
 show Code.wp _ (Code.seq _ _) _ _ _
 apply wp_seq_k
 intro K hK;refine zdc (fun us=>([.pointer (some ⟨c.G,0,none⟩),us 1,us 2,.int .i64 (sz:Int),us 4,us 5,us 6,us 7,.pointer (some ⟨R,0,none⟩),.pointer (some ⟨F,0,none⟩)]++tl us 10 201)) (fun w'=>(∃ (g1:GS) (nv tv xv pv bv:Value) (ps:List Pa) (l:List St) (ys:List Value) (n1:Nat),Pb c { v with nv:=nv,tv:=tv,xv:=xv,n:=n1,rk:=rk,rn:=rn } g w F R nm pv rk rn ps bv l ys g1 w'∧ps.length≤4∧l.length≤1∧n1≤4)) ?rest ?first
 case rest =>
  rintro us w' ⟨g1,nv,tv,xv,pv,bv,ps,l,ys,n1,hp,h4,hl,hn⟩;refine hK _ _ ?_;exact fn_C hp h4 hl hn sz hsz Q HZ us _ _
 case first =>
  intro J0 K0 hJ0 hK0;clear HZ hK
  apply wp_seq_k
  intro K4 hK4;have HK4:Hid _:=hK4;clear hK4;have HB:Hid (∀ us',Code.wp Tryz.prog fnB (Exit.then K0 (bodyPost Tryz.prog Tryz.f40 Q)) { tmps:=([.pointer (some ⟨c.G,0,none⟩),nm,.bool main,.int .i64 (sz:Int),us' 4,us' 5,us' 6,us' 7,.pointer (some ⟨R,0,none⟩),.pointer (some ⟨F,0,none⟩)]++tl us' 10 201).toArray,defers:=[] } w2):=fun us'=>fn_B X2 (by omega) Q _ _ (fun P a0 n0 c0 us2 w3 ⟨g1,nv1,tv1,xv1,pv1,ps1,r0,r1,r2,r3,r4,r5⟩=>fn_B2 h0 Q _ _ ps1 (fun E S a1 n1 c1 us3 w4 r=>fn_B3 h0 Q _ ps1 r2 hJ0 hK0 E S a1 n1 c1 us3 w4 r) P a0 n0 c0 us2 w3 g1 nv1 tv1 xv1 pv1 r1 r2 ⟨r0,r3,r5⟩) us'
  have HM:Hid (∃ (g1:GS) (nv tv xv pv bv:Value) (ps:List Pa) (l:List St) (ys:List Value) (n1:Nat),Pb c { v with nv:=nv,tv:=tv,xv:=xv,n:=n1,rk:=rk,rn:=rn } g w F R nm pv rk rn ps bv l ys g1 w2∧ps.length≤4∧l.length≤1∧n1≤4):=⟨g2,nv,tv,xv,pv,_,ps,[],[],k0,⟨X2.out,Rw.nil _ _ _ _ _,trivial,fun b q=>(by intro q2;cases q2),h0⟩,by omega,Nat.zero_le _,by omega⟩
  clear X2;dsimp only [List.cons_append,List.nil_append,tl,Nat.reduceAdd]
  cases b with
  | true =>
   clear hK0 hJ0;go_wp2_with fail
   refine HK4.out _ _ ?_;refine wp_cond_true rfl ?_;exact zbb (f:=fun us=>([.pointer (some ⟨c.G,0,none⟩),nm,.bool main,.int .i64 (sz:Int),us 4,us 5,us 6,us 7,.pointer (some ⟨R,0,none⟩),.pointer (some ⟨F,0,none⟩)]++tl us 10 201)) HB.out rfl
  | false =>
   clear HB;go_wp2_with fail
   refine HK4.out _ _ ?_;clear HK4;refine wp_cond_false rfl ?_;go_wp2_with fail
   exact meetG hJ0 rfl HM.out
theorem fn_H2 {c:Dx}{v:Gv}{g:GS}{w w2:World}{F R:Nat}{nm:Value}(X:(∃ (g1:GS) (nv tv xv:Value) (rk rn:Int) (pv:Value) (ps:List Pa) (k:Nat),Pf c { v with nv:=nv,tv:=tv,xv:=xv,n:=k,rk:=rk,rn:=rn } g w F R nm pv rk rn (.slice none 0 0) ps g1 w2∧ps.length=k∧k≤3)) (h0:w.heap.size≤F) (main:Bool) (sz:Nat) (hsz:sz≤1000) (Q:Ending→World→Prop) (HZ:Hid (∀ u w',FunR c v g w u w'→Q (.returned u) w')) (us:Nat→Value):Code.wp Tryz.prog fnH2 (bodyPost Tryz.prog Tryz.f40 Q) { tmps:=([.pointer (some ⟨c.G,0,none⟩),nm,.bool main,.int .i64 (sz:Int),us 4,us 5,us 6,us 7,.pointer (some ⟨R,0,none⟩),.pointer (some ⟨F,0,none⟩)]++tl us 10 201).toArray,defers:=[] } w2:=by
 obtain⟨g2,nv,tv,xv,rk,rn,pv,ps,k,p2,hps,hk⟩:=X;show Code.wp _ (Code.seq _ _) _ _ _
 apply wp_seq_k
 intro K hK;have HK:Hid _:=hK;clear hK;have HE:Hid (∀ (b main:Bool) g3 w3,Pf c { v with nv:=nv,tv:=tv,xv:=xv,n:=k,rk:=rk,rn:=rn } g w F R nm pv rk rn (.slice none 0 0) ps g3 w3→∀ us:Nat→Value,Code.wp Tryz.prog fnH3 (bodyPost Tryz.prog Tryz.f40 Q) { tmps:=([.pointer (some ⟨c.G,0,none⟩),nm,.bool main,.int .i64 (sz:Int),us 4,us 5,us 6,us 7,.pointer (some ⟨R,0,none⟩),.pointer (some ⟨F,0,none⟩),us 10,us 11,us 12,.bool b]++tl us 14 197).toArray,defers:=[] } w3):=fun b main g3 w3 p3 us=>fn_H3 p3 hps hk h0 main b sz hsz Q HZ us;clear HZ;dsimp only [List.cons_append,List.nil_append,tl,Nat.reduceAdd];have cg:=p2.zx.g0;have HO:=zce p2.zx.ec.gs 3 (by decide) (by decide);have X2:Hid (Pf c { v with nv:=nv,tv:=tv,xv:=xv,n:=k,rk:=rk,rn:=rn } g w F R nm pv rk rn (.slice none 0 0) ps g2 w2):=p2;clear p2
 cases main with
 | true =>
  clear HO;go_wp2_with fail
  refine HK.out _ _ ?_;exact zbb (f:=fun us=>([.pointer (some ⟨c.G,0,none⟩),nm,.bool true,.int .i64 (sz:Int),us 4,us 5,us 6,us 7,.pointer (some ⟨R,0,none⟩),.pointer (some ⟨F,0,none⟩),us 10,us 11,us 12,.bool false]++tl us 14 197)) (HE.out false true _ _ X2.out) rfl
 | false =>
  go_wp2_with fail
  refine HO.mono ?_;rintro e w3 ⟨_,rfl,g3,s3,k3,b,rfl⟩;have p3:=X2.out.call s3 k3;clear HO X2 s3 k3 cg;obtain⟨⟨⟨qa0,f0⟩,⟨qa1,f1⟩,⟨qa2,f2⟩,⟨qa3,f3⟩,⟨qa4,f4⟩⟩,qal⟩:=p3.zx.b0.bx.c5;have X3:Hid _:=p3;clear p3
  cases b with
  | false =>
   go_wp2_with fail
   refine HK.out _ _ ?_;exact zbb (f:=fun us=>([.pointer (some ⟨c.G,0,none⟩),nm,.bool false,.int .i64 (sz:Int),us 4,us 5,us 6,us 7,.pointer (some ⟨R,0,none⟩),.pointer (some ⟨F,0,none⟩),us 10,us 11,us 12,.bool false]++tl us 14 197)) (HE.out false false _ _ X3.out) rfl
  | true =>
   by_cases hz:rk=0
   ·have i1:(rk != 0)=false:=by simp[hz]
    have i2:(rk==0)=true:=by simp[hz]
    clear hz;go_wp2_with fail
    refine HK.out _ _ ?_;exact zbb (f:=fun us=>([.pointer (some ⟨c.G,0,none⟩),nm,.bool false,.int .i64 (sz:Int),us 4,us 5,us 6,us 7,.pointer (some ⟨R,0,none⟩),.pointer (some ⟨F,0,none⟩),us 10,us 11,us 12,.bool false]++tl us 14 197)) (HE.out false false _ _ X3.out) rfl
   ·have i1:(rk != 0)=true:=by simpa using hz
    have i2:(rk==0)=false:=by simpa using hz
    clear hz;go_wp2_with fail
    refine HK.out _ _ ?_;exact zbb (f:=fun us=>([.pointer (some ⟨c.G,0,none⟩),nm,.bool false,.int .i64 (sz:Int),us 4,us 5,us 6,us 7,.pointer (some ⟨R,0,none⟩),.pointer (some ⟨F,0,none⟩),us 10,us 11,us 12,.bool true]++tl us 14 197)) (HE.out true false _ _ X3.out) rfl
theorem fn_H {c:Dx}{v:Gv}{g g2:GS}{w w2:World}{F R:Nat}{nm nv tv xv:Value}(X2:Hid (Pf c { v with nv:=nv,tv:=tv,xv:=xv,n:=0,rk:=0,rn:=0 } g w F R nm (.slice none 0 0) 0 0 (.slice none 0 0) [] g2 w2)) (h0:w.heap.size≤F) (main:Bool) (sz:Nat) (hsz:sz≤1000) (Q:Ending→World→Prop) (HZ:Hid (∀ u w',FunR c v g w u w'→Q (.returned u) w')) (us:Nat→Value):Code.wp Tryz.prog fnH (bodyPost Tryz.prog Tryz.f40 Q) { tmps:=([.pointer (some ⟨c.G,0,none⟩),nm,.bool main,.int .i64 (sz:Int),us 4,us 5,us 6,us 7,.pointer (some ⟨R,0,none⟩),.pointer (some ⟨F,0,none⟩)]++tl us 10 201).toArray,defers:=[] } w2:=by
 show Code.wp _ (Code.seq _ _) _ _ _
 apply wp_seq_k
 intro K hK;refine zdc (fun us=>([.pointer (some ⟨c.G,0,none⟩),nm,.bool main,.int .i64 (sz:Int),us 4,us 5,us 6,us 7,.pointer (some ⟨R,0,none⟩),.pointer (some ⟨F,0,none⟩)]++tl us 10 201)) (fun w'=>(∃ (g1:GS) (nv tv xv:Value) (rk rn:Int) (pv:Value) (ps:List Pa) (k:Nat),Pf c { v with nv:=nv,tv:=tv,xv:=xv,n:=k,rk:=rk,rn:=rn } g w F R nm pv rk rn (.slice none 0 0) ps g1 w'∧ps.length=k∧k≤3)) ?rest ?first
 case rest =>
  intro us w' r;refine hK _ _ ?_;exact fn_H2 r h0 main sz hsz Q HZ us
 case first =>
  intro J0 K0 hJ0 hK0;clear HZ hK
  apply wp_seq_k
  intro K4 hK4;have HK4:Hid _:=hK4;clear hK4;have HA:Hid (∀ us':Nat→Value,Code.wp Tryz.prog fnA (Exit.then K0 (bodyPost Tryz.prog Tryz.f40 Q)) { tmps:=([.pointer (some ⟨c.G,0,none⟩),nm,.bool main,.int .i64 (sz:Int),us' 4,us' 5,us' 6,us' 7,.pointer (some ⟨R,0,none⟩),.pointer (some ⟨F,0,none⟩)]++tl us' 10 201).toArray,defers:=[] } w2):=fun us'=>fn_A nv tv xv X2 Q _ _ hJ0 hK0 us'
  have HM:Hid (∃ (g1:GS) (nv tv xv:Value) (rk rn:Int) (pv:Value) (ps:List Pa) (k:Nat),Pf c { v with nv:=nv,tv:=tv,xv:=xv,n:=k,rk:=rk,rn:=rn } g w F R nm pv rk rn (.slice none 0 0) ps g1 w2∧ps.length=k∧k≤3):=⟨g2,nv,tv,xv,0,0,_,[],0,X2.out,rfl,Nat.zero_le _⟩
  clear X2;dsimp only [List.cons_append,List.nil_append,tl,Nat.reduceAdd]
  cases main with
  | false =>
   clear hK0 hJ0;go_wp2_with fail
   refine HK4.out _ _ ?_;refine wp_cond_true rfl ?_;exact zbb (f:=fun us=>([.pointer (some ⟨c.G,0,none⟩),nm,.bool false,.int .i64 (sz:Int),us 4,us 5,us 6,us 7,.pointer (some ⟨R,0,none⟩),.pointer (some ⟨F,0,none⟩)]++tl us 10 201)) HA.out rfl
  | true =>
   clear HA;go_wp2_with fail
   refine HK4.out _ _ ?_;clear HK4;refine wp_cond_false rfl ?_;go_wp2_with fail
   exact meetG hJ0 rfl HM.out
theorem func_any {c:Dx}{v:Gv}{g:GS}{w:World}(h:Gs c g w v) (nm:Value) (hnm:NmS (mask g w) nm) (main:Bool) (sz:Nat) (hsz:sz≤1000):Calls Tryz.prog 40 #[.pointer (some ⟨c.G,0,none⟩),nm,.bool main,.int .i64 (sz:Int)] w fun e w'=>∃ u,e=.returned u∧FunR c v g w u w':=by
 obtain⟨Q,hQ⟩:∃ Q:Ending→World→Prop,Q=fun e w'=>∃ u,e=.returned u∧FunR c v g w u w':=⟨_,rfl⟩
 rw[←hQ];have HZ:Hid (∀ u w',FunR c v g w u w'→Q (.returned u) w'):=fun u w' r=>by rw[hQ];exact⟨u,rfl,r⟩
 clear hQ;obtain⟨ma,mn,mc,hm⟩:=hnm.slice;subst hm
 have z0:Zx c v g w [] g w:=⟨Ec.start h,fun p q=>by cases q⟩
 have z1:=(z0.new [.slice none 0 0,.slice none 0 0,.int .i64 0,.int .i64 0,.slice none 0 0] 73 rfl).new [.slice ma mn mc,.slice none 0 0,.int .i64 0,.int .i64 0,.slice none 0 0] 73 rfl;rw[World.size_alloc]at z1;have Z1:Hid _:=z1;have l2:=(later1 w (.cells #[.slice none 0 0,.slice none 0 0,.int .i64 0,.int .i64 0,.slice none 0 0] 73)).trans (later1 _ (.cells #[.slice ma mn mc,.slice none 0 0,.int .i64 0,.int .i64 0,.slice none 0 0] 73));have HU:=until_any z1.ec.gs 0 (Nat.zero_le _);have HN:Hid (NmS (mask g w) (.slice ma mn mc)):=hnm;have H0:Hid (g.Ok w):=h.ok;clear hnm z0 z1 l2 h;go_enter Tryz.func40,Tryz.ntmps40;go_wp2_with fail
 refine HU.mono ?_;rintro e w3 ⟨_,rfl,rfl,g3,nv,tv,xv,s3,k3⟩;have z3:=Z1.out.call s3 k3;have hn3:=HN.out.sub (Ov.stp H0.out z3.ec.st).sub;obtain⟨nx,lf,hb⟩:=z3.ec.gs.box;obtain⟨gb0,gf0⟩:=hb.cell 8 _ rfl;obtain⟨gb1,gf1⟩:=hb.cell 9 _ rfl;have gbl:=hb.lt
 have hp:Hid (∀ w4,w4=(w3.setCell ⟨c.G,8,none⟩ (.int .i64 0)).setCell ⟨c.G,9,none⟩ (.int .i64 0)→Pf c { v with nv:=nv,tv:=tv,xv:=xv,n:=0,rk:=0,rn:=0 } g w (w.heap.size+1) w.heap.size (.slice ma mn mc) (.slice none 0 0) 0 0 (.slice none 0 0) [] g3 w4):=by
  intro w4 h4;obtain⟨k4,s4⟩:=z3.ec.gs.res 0 0 (by unfold InR;omega) h4;exact⟨z3.call s4 k4,hn3.sub (Ov.stp z3.ec.gs.ok s4).sub,⟨[],Rw.nil _ _ _ _ _⟩,fun i hi=>absurd hi (by simp),by unfold InR;omega,Nat.lt_succ_self _⟩
 clear hb z3 hn3 HN H0 s3 k3 Z1 HU;go_upto_region 3 with fail
 refine zdc (fun us=>([.pointer (some ⟨c.G,0,none⟩),.slice ma mn mc,.bool main,.int .i64 (sz:Int),us 4,us 5,us 6,us 7,.pointer (some ⟨w.heap.size,0,none⟩),.pointer (some ⟨w.heap.size+1,0,none⟩)]++tl us 10 201)) (fun w4=>Pf c { v with nv:=nv,tv:=tv,xv:=xv,n:=0,rk:=0,rn:=0 } g w (w.heap.size+1) w.heap.size (.slice ma mn mc) (.slice none 0 0) 0 0 (.slice none 0 0) [] g3 w4) ?rest ?first
 case rest =>
  intro us w4 r;go_step
  exact fn_H r (Nat.le_succ _) main sz hsz Q HZ us
 case first =>
  intro J0 K1 hJ0 hK1;clear HZ;go_wp2_with fail
  exact meetG hJ0 rfl (hp.out _ rfl)
end Go.Proofs.YtgholpilmdebmaaGreatDoor
