import Derived.Test.YtgholpilmdebmaaGreatDoorZ21
set_option maxHeartbeats 100000000
set_option maxRecDepth 100000
namespace Go.Proofs.YtgholpilmdebmaaGreatDoor
open Go.RowKit Go.Maps
theorem Ex.dats_app1 (l:List Ex) (x:Ex):Ex.dats (l++[x])=Ex.dats l++[x.dat]:=by
 induction l with
 | nil=>rfl
 | cons y r ih=>rw[List.cons_append,Ex.dats,Ex.dats,ih];rfl
theorem Ex.goods_app1:∀ (l:List Ex) (x:Ex),Ex.goods l→x.good→Ex.goods (l++[x])
 | [],_,_,h=>⟨h,trivial⟩
 | _::r,x,h,k=>⟨h.1,Ex.goods_app1 r x h.2 k⟩
theorem Gs.fnAt {c:Dx}{g:GS}{w:World}{v:Gv}(h:Gs c g w v) (i:Nat) (hi:i<v.fs.length):∃ b p a0 n0 c0 a1 c1 u2,v.fv=.slice (some ⟨b,0,none⟩) v.fs.length p∧b<w.heap.size∧w.cell? ⟨b,i*5,none⟩=some (.slice a0 n0 c0)∧w.cell? ⟨b,i*5+1,none⟩=some (.slice a1 v.fs[i].params.length c1)∧w.cell? ⟨b,i*5+2,none⟩=some (.int .i64 v.fs[i].rk)∧w.cell? ⟨b,i*5+3,none⟩=some (.int .i64 v.fs[i].rn)∧w.cell? ⟨b,i*5+4,none⟩=some u2∧NmS (mask g w) (.slice a0 n0 c0)∧RdL (mask g w) 3 (.slice a1 v.fs[i].params.length c1) (Pa.dats v.fs[i].params):=by
 obtain⟨xs,o,he⟩:=h.fs;rcases o.2 with ⟨_,e⟩|⟨b,p,cur,e,_⟩
 ·omega
 ·have ho:=o;rw[e]at ho;obtain⟨cs,hk,hc,hd⟩:=ElS.at _ he i (by rw[Fu.dats_len];exact hi);rw[Fu.dats_at v.fs i hi]at hd;obtain⟨v0,v1,v2,rfl,r0,r1,r2⟩:=Fu.view hd;obtain⟨a0,c0,rfl,_⟩:=r0.slice;obtain⟨a1,c1,rfl,_⟩:=Pa.slice r1
  have hl:∀ m u,([.slice a0 v.fs[i].name.length c0,.slice a1 v.fs[i].params.length c1,.int .i64 v.fs[i].rk,.int .i64 v.fs[i].rn,v2]:List Value)[m]?=some u→w.cell? ⟨b,i*5+m,none⟩=some u:=fun m u q=>by
   have hx:=hc m u q;have:=(List.getElem?_eq_some_iff.1 hx).1;rw[ho.cellAt _ (by rw[←o.1];exact this)];exact hx
  exact⟨b,p,a0,_,c0,a1,c1,v2,e,(ho.lt b rfl).2,hl 0 _ rfl,hl 1 _ rfl,hl 2 _ rfl,hl 3 _ rfl,hl 4 _ rfl,⟨_,r0⟩,r1⟩
theorem Gs.grow {c:Dx}{g:GS}{w w':World}{v:Gv}(h:Gs c g w v) {o:Option Nat}(k:w.grownBy w' o) (ho:∀ b,o=some b→¬ g.S b∧¬ g.D b∧c.G<b):Gs c g w' v:=by
 obtain⟨nx,lf,hx⟩:=h.box;have hkg:=h.kg;have hB:=h.cur.hB;have hk:=h.cur.hK
 have hb:∀ b,b<w.heap.size→(g.S b∨g.D b∨b≤c.G)→w'.heap[b]?=w.heap[b]?:=fun b hl q=>k.block b hl fun e=>by
  obtain⟨q1,q2,q3⟩:=ho b e.symm;rcases q with q|q|q
  ·exact q1 q
  ·exact q2 q
  ·omega
 refine h.turn k.size (fun b hl q=>hb b hl (q.elim .inl fun z=>.inr (.inl z.1))) ?_ ⟨nx,lf,hx.kept k.size (hb _ hx.lt (.inr (.inr (Nat.le_refl _))))⟩;have hbK:=hb c.K hk (.inr (.inr (by omega)));refine⟨?_,?_,?_,?_,?_,hB,Nat.lt_of_lt_of_le hk k.size,h.cur.hl,fun j hj=>?_⟩
 ·rw[World.cell?_of_block hbK];exact h.cur.c0
 ·rw[World.cell?_of_block hbK];exact h.cur.c1
 ·rw[World.cell?_of_block hbK];exact h.cur.c2
 ·rw[World.frozen?_of_block hbK];exact h.cur.f1
 ·rw[World.frozen?_of_block hbK];exact h.cur.f2
 ·obtain⟨bx,off,u,e1,e2,e3,e4⟩:=h.cur.bs j hj;exact⟨bx,off,u,e1,e2,by rw[World.cell?_of_block (hb bx (by omega) (.inr (.inr (by omega))))];exact e3,e4⟩
structure Fe (c:Dx) (v:Gv) (g:GS) (w:World) (R E:Nat) (kd:Int) (nm:Value) (g1:GS) (w1:World) (ka:Option Addr) (m kc:Nat) (l:List Ex) (xs:List Value):Prop where
 ec:Ec c v g w g1 w1
 br:Lb c g1 w1 R [.int .i64 0,.int .i64 0,.int .i64 0,.int .i64 0,.slice none 0 0,.slice none 0 0]
 be:Lb c g1 w1 E [.int .i64 kd,.int .i64 0,.int .i64 0,.int .i64 0,nm,.slice ka m kc]
 re:R<E
 hr:w.heap.size≤R
 nm:NmS (mask g1 w1) nm
 rw:Rw g1 w1 (E+1) 89 6 (.slice ka m kc) (Ex.dats l) xs
 gd:Ex.goods l
 ln:l.length=m
theorem Fe.row {c:Dx}{v:Gv}{g g1:GS}{w w1:World}{R E:Nat}{kd:Int}{nm:Value}{ka:Option Addr}{m kc:Nat}{l:List Ex}{xs:List Value}(h:Fe c v g w R E kd nm g1 w1 ka m kc l xs):w1.ownsRow (E+1) 89 6 (.slice ka m kc) m xs:=by
 have:=h.rw.row;rw[Ex.dats_len,h.ln]at this;exact this
theorem Fe.call {c:Dx}{v:Gv}{g g1 g2:GS}{w w1 w2:World}{R E:Nat}{kd:Int}{nm:Value}{ka:Option Addr}{m kc:Nat}{l:List Ex}{xs:List Value}(h:Fe c v g w R E kd nm g1 w1 ka m kc l xs) (s:Stp g1 w1 g2 w2) (k:Gs c g2 w2 v):Fe c v g w R E kd nm g2 w2 ka m kc l xs:=⟨h.ec.call s k,h.br.stp s,h.be.stp s,h.re,h.hr,h.nm.sub (Ov.stp h.ec.gs.ok s).sub,h.rw.stp h.ec.gs.ok s,h.gd,h.ln⟩
theorem Fe.later {c:Dx}{v:Gv}{g g1:GS}{w w1 w2:World}{R E:Nat}{kd:Int}{nm:Value}{ka:Option Addr}{m kc:Nat}{l:List Ex}{xs:List Value}(h:Fe c v g w R E kd nm g1 w1 ka m kc l xs) (s:Later w1 w2):Fe c v g w R E kd nm g1 w2 ka m kc l xs:=h.call ((Stp.refl _ _).later s) (h.ec.gs.later s)
theorem Fe.push {c:Dx}{v:Gv}{g g1:GS}{w w1 w2:World}{R E:Nat}{kd:Int}{nm:Value}{ka ka':Option Addr}{m kc kc':Nat}{l:List Ex}{xs:List Value}(h:Fe c v g w R E kd nm g1 w1 ka m kc l xs) {k n tk tn:Int}{u0 u1:Value}(hx:ExS (mask g1 w1) k n tk tn u0 u1) (ho:w2.ownsRow (E+1) 89 6 (.slice ka' (m+1) kc') (m+1) (xs++[.int .i64 k,.int .i64 n,.int .i64 tk,.int .i64 tn,u0,u1])) (hg:w1.grownBy w2 (Value.ownBlock (.slice ka m kc))) (hloc:Value.ownBlock (.slice ka' (m+1) kc')=Value.ownBlock (.slice ka m kc)∨Value.ownBlock (.slice ka' (m+1) kc')=some w1.heap.size):Bxx w2 E [.int .i64 kd,.int .i64 0,.int .i64 0,.int .i64 0,nm,.slice ka m kc]∧∃ l',Fe c v g w R E kd nm g1 (w2.setCell ⟨E,5,none⟩ (.slice ka' (m+1) kc')) ka' (m+1) kc' l' (xs++[.int .i64 k,.int .i64 n,.int .i64 tk,.int .i64 tn,u0,u1]):=by
 obtain⟨x,gx,rx⟩:=hx.rd;have hlt:=h.rw.row.lt;have hE:=h.be.bx.lt;have hS:∀ b,Value.ownBlock (.slice ka m kc)=some b→¬ g1.S b:=fun b e=>(h.rw.own b e).1;have hne:∀ b,b≤E→b<w1.heap.size→w2.heap[b]?=w1.heap[b]?:=fun b hb hl=>hg.block b hl fun e=>by have:=(hlt b e.symm).1;omega
 have hR:=h.br.bx.lt;have hre:=h.re;have hhr:=h.hr
 have g2:Gs c g1 w2 v:=h.ec.gs.grow hg fun b e=>⟨(h.rw.own b e).1,(h.rw.own b e).2,by have:=(hlt b e).1;have:=h.be.hi;omega⟩
 have s2:Stp g w g1 w2:=h.ec.st.grow hg fun b e=>.inl (by have:=(hlt b e).1;omega);have ov:=(Ov.grow h.ec.gs.ok hg hS).sub;have p:=h.rw.push h.ec.gs.ok (m:=[x.dat]) (ElS.one rfl rx) (by rw[Ex.dats_len,h.ln];exact ho) hg hloc
 have e2:Ec c v g w g1 w2:=⟨s2,g2⟩
 have bE:Lb c g1 w2 E [.int .i64 kd,.int .i64 0,.int .i64 0,.int .i64 0,nm,.slice ka m kc]:=⟨h.be.bx.kept hg.size (hne E (Nat.le_refl _) hE),h.be.s,h.be.d,h.be.hi⟩
 have bR:Lb c g1 w2 R [.int .i64 0,.int .i64 0,.int .i64 0,.int .i64 0,.slice none 0 0,.slice none 0 0]:=⟨h.br.bx.kept hg.size (hne R (by omega) hR),h.br.s,h.br.d,h.br.hi⟩
 have o:=(OnlyK.refl E w2).set 5 (.slice ka' (m+1) kc');have ov2:=(Ov.only g2.ok o bE.s).sub;refine⟨bE.bx,l++[x],e2.own bE (by omega) o,bR.only o (by omega),⟨bE.bx.set 5 _ (by simp),bE.s,bE.d,bE.hi⟩,hre,hhr,(h.nm.sub ov).sub ov2,?_,Ex.goods_app1 _ _ h.gd gx,by rw[List.length_append,h.ln];rfl⟩;rw[Ex.dats_app1];exact p.only g2.ok o bE.s fun e=>by have:=(p.row.lt E e).1;omega
theorem Ec.seal2 {c:Dx}{v:Gv}{g0 g:GS}{w0 w:World}(h:Ec c v g0 w0 g w) {b:Nat}(hl:b<w.heap.size) (hd:¬ g.D b) (h0:w0.heap.size≤b):Ec c v g0 w0 (g.seal b) w:=⟨h.st.seal h0,h.gs.seal hl hd⟩
theorem Fe.done {c:Dx}{v:Gv}{g g1:GS}{w w1:World}{R E:Nat}{kd:Int}{nm:Value}{ka:Option Addr}{m kc:Nat}{l:List Ex}{xs:List Value}(h:Fe c v g w R E kd nm g1 w1 ka m kc l xs):∃ g2,Ec c v g w g2 w1∧Lb c g2 w1 R [.int .i64 0,.int .i64 0,.int .i64 0,.int .i64 0,.slice none 0 0,.slice none 0 0]∧ExS (mask g2 w1) kd 0 0 0 nm (.slice ka m kc):=by
 have hre:=h.re;have hhr:=h.hr;rcases h.rw.done with ⟨_,r⟩|⟨b,e,h1,h2,_,h4,r⟩
 ·exact⟨g1,h.ec,h.br,h.nm,⟨l,h.gd,r⟩,by unfold InR;omega⟩
 ·exact⟨_,h.ec.seal2 h2 h4 (by omega),h.br.seal (by omega),h.nm.sub (Ov.seal _ _ b).sub,⟨l,h.gd,r⟩,by unfold InR;omega⟩
theorem Tryz.underlying87:Tryz.prog.underlying 87=some (.slice 89):=by kernel_rfl
theorem call_of (d:Int) (hd0:1≤d) (hd1:d≤3) (H:ExD (d - 2)) {c:Dx}{g:GS}{w:World}{v:Gv}(h:Gs c g w v) (i:Nat) (hi:i<v.fs.length):Calls Tryz.prog 93 #[.pointer (some ⟨c.G,0,none⟩),.int .i64 (i:Int),.int .i64 d] w (AnsP c v g w ExV):=by
 obtain⟨i0,hi0,hz0,hz1,hz2⟩:=info_parts Tryz.info89;obtain⟨fb,fp,a0,n0,c0,a1,c1,u2,hfv,hfb,q0,q1,_,_,_,hnm,_⟩:=h.fnAt i hi;obtain⟨nx,lf,_,_,cG2,_,_,_,_,_,_,_,_,hG⟩:=h.ten;rw[hfv]at cG2;have hfok:=(h.fok.2 i hi).2.2;have hfl:=h.fok.1;have i1:(i:Int)<(v.fs.length:Int):=by omega
 have hwd:IntKind.i64.wrap (d - 2)=d - 2:=by rw[IntKind.wrap_i64];omega
 obtain⟨w1,hw1⟩:=hidx ((w.alloc (.cells #[.int .i64 0,.int .i64 0,.int .i64 0,.int .i64 0,.slice none 0 0,.slice none 0 0] 89)).alloc (.cells #[.int .i64 6,.int .i64 0,.int .i64 0,.int .i64 0,.slice a0 n0 c0,.slice none 0 0] 89))
 have f1:Fe c v g w w.heap.size (w.heap.size+1) 6 (.slice a0 n0 c0) g w1 none 0 0 [] []:=by
  have b1:=Lb.new h [.int .i64 0,.int .i64 0,.int .i64 0,.int .i64 0,.slice none 0 0,.slice none 0 0] 89;have e1:=(Ec.start h).later (later1 w (.cells [.int .i64 0,.int .i64 0,.int .i64 0,.int .i64 0,.slice none 0 0,.slice none 0 0].toArray 89));have b2:=Lb.new e1.gs [.int .i64 6,.int .i64 0,.int .i64 0,.int .i64 0,.slice a0 n0 c0,.slice none 0 0] 89;rw[World.size_alloc]at b2;have e2:=e1.later (later1 _ (.cells [.int .i64 6,.int .i64 0,.int .i64 0,.int .i64 0,.slice a0 n0 c0,.slice none 0 0].toArray 89));rw[hw1.out];exact⟨e2,b1.later (later1 _ _),b2,Nat.lt_succ_self _,Nat.le_refl _,hnm.sub (Ov.stp h.ok e2.st).sub,Rw.nil _ _ _ _ _,trivial,rfl⟩
 have F1:Hid _:=f1;have HH:Hid _:=H;have HK:Hid (∀ k (hk:k<v.fs[i].params.length),InR v.fs[i].params[k].tn):=hfok.2;have hnp:=hfok.1;have HFv:Hid _:=hfv
 generalize hQ:AnsP c v g w ExV=Q
 have HZ:Hid (∀ e w',AnsP c v g w ExV e w'→Q e w'):=fun e w' q=>by rw[←hQ];exact q
 clear f1 H hfok hQ h hnm hfv;go_enter Tryz.func93,Tryz.ntmps93;go_wp2_with fail
 rw[←hw1.out];clear hw1 cG2 q0 q1 hG hfb
 generalize w.heap.size+1=E at *
 generalize hRR:w.heap.size=R at *
 clear hRR;go_loopw [8] (fun i' wr=>∃ (k:Nat) (g':GS) (ka:Option Addr) (kc:Nat) (l:List Ex) (xs:List Value),i'=.int .i64 (k:Int)∧k≤v.fs[i].params.length∧Fe c v g w R E 6 (.slice a0 n0 c0) g' wr ka k kc l xs) (fun i' _=>v.fs[i].params.length - (intOf i').toNat)
 case atStart=>exact⟨0,g,none,0,[],[],rfl,Nat.zero_le _,F1.out⟩
 case round =>
  clear F1;obtain⟨k,g',ka,kc,l,xs,rfl,hk,f⟩:=hrel;obtain⟨fb',fp',_,_,_,a1',c1',_,hfv',hfb',_,q1,_,_,_,_,hpr⟩:=f.ec.gs.fnAt i hi;obtain⟨nx,lf,_,_,cG2,_⟩:=f.ec.gs.ten;rw[HFv.out]at hfv' cG2
  cases hfv'
  have hrow:=f.row;obtain⟨⟨⟨qa0,f0⟩,⟨qa1,f1⟩,⟨qa2,f2⟩,⟨qa3,f3⟩,⟨qa4,f4⟩,⟨qa5,f5⟩⟩,qal⟩:=f.be.bx.c6;have FF:Hid (Fe c v g w R E 6 (.slice a0 n0 c0) g' wr ka k kc l xs):=f;by_cases hlt:k<v.fs[i].params.length
  ·have j1:(k:Int)<(v.fs[i].params.length:Int):=by omega
   obtain⟨pb,po,pv,hpa,hpb,_,m1,m2,_⟩:=Pa.elem hpr k hlt;subst hpa;have q2:=(zam m1).2;have q3:=(zam m2).2;have hin:=HK.out k hlt;have HC:Hid (∀ w',Later wr w'→Calls Tryz.prog 60 #[.pointer (some ⟨c.G,0,none⟩),.agg #[.int .i64 v.fs[i].params[k].tk,.int .i64 v.fs[i].params[k].tn],.int .i64 (d - 2)] w' fun e w2=>∃ u,e=.returned u∧CallR c v g' wr ExV u w2):=fun w' l=>AnsP.call l (HH.out c _ _ v _ _ (f.ec.gs.later l) hin);clear f hpr m1 m2 hin hrow
   generalize v.fs[i].params[k].tk=ptk at *
   generalize v.fs[i].params[k].tn=ptn at *
   go_upto_region 5 with fail
   go_region_law (first
    | (refine zaa rfl 60 zax _ _ rfl [.pointer (some ⟨c.G,0,none⟩),.agg #[.int .i64 ptk,.int .i64 ptn],.int .i64 (d - 2)] rfl _ (HC.out _ (Later.drew _)) ?_;rintro u6 w6 ⟨g6,s6,k6,yk,yn,ytk,ytn,ya0,yn0,yc0,ya1,yn1,yc1,rfl,hy⟩;have x6:=FF.out.call s6 k6;have row6:=x6.row;have bs6:E+1≤w6.heap.size:=x6.be.bx.lt;obtain⟨⟨⟨qb0,g0_⟩,⟨qb1,g1_⟩,⟨qb2,g2_⟩,⟨qb3,g3_⟩,⟨qb4,g4_⟩,⟨qb5,g5_⟩⟩,qbl⟩:=x6.be.bx.c6)
    | (refine zae rfl _ _ 87 rfl (E+1) 89 i0 (.agg #[.int .i64 0,.int .i64 0,.int .i64 0,.int .i64 0,.slice none 0 0,.slice none 0 0]) 6 80 Tryz.underlying87 hi0 hz0 hz1 hz2 rfl (by decide) _ _ _ rfl (row6.alloc _) _ 1 1 [.int .i64 yk,.int .i64 yn,.int .i64 ytk,.int .i64 ytn,.slice ya0 yn0 yc0,.slice ya1 yn1 yc1] rfl rfl (zao _ _ _ rfl) (by simp[Value.oneCell']) (by unfold maxLen;omega) (by omega) (Nat.le_trans bs6 (later1 _ _).size) ?_;intro v7 w7 o7 g7 h7;obtain⟨a7,p7,hv7⟩:=zac o7;subst hv7;obtain⟨bE7,l',x7⟩:=(x6.later (later1 _ _)).push (hy.sub (Ov.later x6.ec.gs.ok (later1 _ _)).sub) o7 g7 h7;obtain⟨⟨⟨qc0,h0_⟩,⟨qc1,h1_⟩,⟨qc2,h2_⟩,⟨qc3,h3_⟩,⟨qc4,h4_⟩,⟨qc5,h5_⟩⟩,qcl⟩:=bE7.c6))
   all_goals
    have HE:Hid (∃ (k':Nat) (g':GS) (ka:Option Addr) (kc:Nat) (l:List Ex) (xs:List Value),Value.int .i64 ((k:Int)+1)=.int .i64 (k':Int)∧k'≤v.fs[i].params.length∧Fe c v g w R E 6 (.slice a0 n0 c0) g' _ ka k' kc l xs):=⟨k+1,g6,_,_,_,_,by simp,by omega,x7⟩
    clear x7 x6 hy s6 k6 FF HC;go_wp2_with fail
    go_roundw
    case rel=>exact HE.out
    case measure=>simp[intOf];omega
  ·have j1:¬ (k:Int)<(v.fs[i].params.length:Int):=by omega
   have j2:decide ((k:Int)<(v.fs[i].params.length:Int))=false:=decide_eq_false j1;obtain⟨gz,ez,bz,hz⟩:=f.done;obtain⟨W,hW,bW,HW⟩:=ez.fin bz f.hr hz;have HW:=HZ.out _ _ HW.out;obtain⟨⟨⟨r0,rf0⟩,⟨r1,rf1⟩,⟨r2,rf2⟩,⟨r3,rf3⟩,⟨r4,rf4⟩,⟨r5,rf5⟩⟩,rl⟩:=bz.bx.c6;obtain⟨⟨⟨e0,_⟩,⟨e1,_⟩,⟨e2,_⟩,⟨e3,_⟩,⟨e4,_⟩,⟨e5,_⟩⟩,_⟩:=bW.c6;clear f FF ez bz hz bW HZ HH HK hrow hpr HFv;go_wp2_with fail
   rw[←hW.out];exact bodyPost_ret (v:=.agg #[.int .i64 6,.int .i64 0,.int .i64 0,.int .i64 0,.slice a0 n0 c0,.slice ka k kc]) (by simp[results,Tryz.results93,go_sem,e0,e1,e2,e3,e4,e5]) rfl HW
end Go.Proofs.YtgholpilmdebmaaGreatDoor
