import Derived.Test.YtgholpilmdebmaaGreatDoorZ39
import Derived.Test.YtgholpilmdebmaaGreatDoorZ30
import Derived.Test.YtgholpilmdebmaaGreatDoorZ24
import Derived.Test.YtgholpilmdebmaaGreatDoorZ17
import Derived.Deep.RegionHeld3
set_option maxHeartbeats 100000000
set_option maxRecDepth 100000
namespace Go.Proofs.YtgholpilmdebmaaGreatDoor
open Go.RowKit Go.Maps
structure Pk (c:Dx) (v:Gv) (g0:GS) (w0:World) (F R E S:Nat) (nm pv:Value) (rk rn:Int) (ps:List Pa) (d kv:Value) (l:List Ex) (xs:List Value) (g:GS) (w:World):Prop where
 pf:Pf c v g0 w0 F R nm pv rk rn (.slice none 0 0) ps g w
 be:Lb c g w E [.int .i64 3,.int .i64 0,.int .i64 0,.int .i64 0,d,.slice none 0 0]
 bs:Lb c g w S [.int .i64 6,.int .i64 0,.int .i64 0,.int .i64 0,nm,kv]
 kr:Rw g w (S+1) 89 6 kv (Ex.dats l) xs
 gd:Ex.goods l
 dn:NmS (mask g w) d
 fe:F<E
 es:E<S
 hp:∀ b,pv.ownBlock=some b→b<E
 h0:w0.heap.size≤F
theorem Pk.call {c:Dx}{v v':Gv}{g0:GS}{w0:World}{F R E S:Nat}{nm pv:Value}{rk rn:Int}{ps:List Pa}{d kv:Value}{l:List Ex}{xs:List Value}{g:GS}{w:World}{g':GS}{w':World}(h:Pk c v g0 w0 F R E S nm pv rk rn ps d kv l xs g w) (s:Stp g w g' w') (k:Gs c g' w' v'):Pk c v' g0 w0 F R E S nm pv rk rn ps d kv l xs g' w':=⟨h.pf.call s k,h.be.stp s,h.bs.stp s,h.kr.stp h.pf.zx.ec.gs.ok s,h.gd,h.dn.sub (Ov.stp h.pf.zx.ec.gs.ok s).sub,h.fe,h.es,h.hp,h.h0⟩
theorem Pk.later {c:Dx}{v:Gv}{g0:GS}{w0:World}{F R E S:Nat}{nm pv:Value}{rk rn:Int}{ps:List Pa}{d kv:Value}{l:List Ex}{xs:List Value}{g:GS}{w:World}{w':World}(h:Pk c v g0 w0 F R E S nm pv rk rn ps d kv l xs g w) (q:Later w w'):Pk c v g0 w0 F R E S nm pv rk rn ps d kv l xs g w':=h.call ((Stp.refl g w).later q) (h.pf.zx.ec.gs.later q)
theorem Pk.start {c:Dx}{v:Gv}{g0:GS}{w0:World}{F R:Nat}{nm pv:Value}{rk rn:Int}{ps:List Pa}{d:Value}{g:GS}{w w':World}(h:Pf c v g0 w0 F R nm pv rk rn (.slice none 0 0) ps g w) (h0:w0.heap.size≤F) (hd:NmS (mask g w) d) (hw:w'=(w.alloc (.cells #[.int .i64 3,.int .i64 0,.int .i64 0,.int .i64 0,d,.slice none 0 0] 89)).alloc (.cells #[.int .i64 6,.int .i64 0,.int .i64 0,.int .i64 0,nm,.slice none 0 0] 89)):Pk c v g0 w0 F R w.heap.size (w.heap.size+1) nm pv rk rn ps d (.slice none 0 0) [] [] g w':=by
 have l1:=later1 w (.cells #[.int .i64 3,.int .i64 0,.int .i64 0,.int .i64 0,d,.slice none 0 0] 89);have b1:=Lb.new h.zx.ec.gs [.int .i64 3,.int .i64 0,.int .i64 0,.int .i64 0,d,.slice none 0 0] 89;have h1:=h.later l1;have b2:=Lb.new h1.zx.ec.gs [.int .i64 6,.int .i64 0,.int .i64 0,.int .i64 0,nm,.slice none 0 0] 89;rw[World.size_alloc]at b2;have l2:=later1 (w.alloc (.cells #[.int .i64 3,.int .i64 0,.int .i64 0,.int .i64 0,d,.slice none 0 0] 89)) (.cells #[.int .i64 6,.int .i64 0,.int .i64 0,.int .i64 0,nm,.slice none 0 0] 89);have h2:=h1.later l2;obtain⟨xs,rp⟩:=h.rw;subst hw;exact⟨h2,b1.later l2,b2,Rw.nil _ _ _ _ _,trivial,hd.sub (Ov.later h.zx.ec.gs.ok (l1.trans l2)).sub,h.zx.lt0,Nat.lt_succ_self _,fun b q=>(rp.row.lt b q).2,h0⟩
theorem Pk.push {c:Dx}{v:Gv}{g0:GS}{w0:World}{F R E S:Nat}{nm pv:Value}{rk rn:Int}{ps:List Pa}{d kv:Value}{l:List Ex}{xs:List Value}{g:GS}{w:World}{w2 w3:World}{kv':Value}(h:Pk c v g0 w0 F R E S nm pv rk rn ps d kv l xs g w) {k n tk tn:Int}{u0 u1:Value}(hx:ExS (mask g w) k n tk tn u0 u1) (o:w2.ownsRow (S+1) 89 6 kv' (l.length+1) (xs++[.int .i64 k,.int .i64 n,.int .i64 tk,.int .i64 tn,u0,u1])) (hg:w.grownBy w2 kv.ownBlock) (hloc:kv'.ownBlock=kv.ownBlock∨kv'.ownBlock=some w.heap.size) (h3:w3=w2.setCell ⟨S,5,none⟩ kv'):(∃ l',l'.length=l.length+1∧Pk c v g0 w0 F R E S nm pv rk rn ps d kv' l' (xs++[.int .i64 k,.int .i64 n,.int .i64 tk,.int .i64 tn,u0,u1]) g w3)∧Bxx w2 S [.int .i64 6,.int .i64 0,.int .i64 0,.int .i64 0,nm,kv]∧Bxx w2 E [.int .i64 3,.int .i64 0,.int .i64 0,.int .i64 0,d,.slice none 0 0]:=by
 obtain⟨x,gx,rx⟩:=hx.rd;obtain⟨ys,rp⟩:=h.pf.rw;have hlt:=h.kr.row.lt;have hne:=h.pf.ne;have hfe:=h.fe;have hes:=h.es;have h00:=h.h0;have hF:=h.pf.zx.b0.hi;have ok:=h.pf.zx.ec.gs.ok;obtain⟨x2,ov2⟩:=h.pf.zx.grown h.kr (by omega) (by omega) (fun p q=>by (simp at q;rcases q with rfl|rfl <;> (try simp) <;> omega)) hg;have hb:∀ b,b≤S→b<w.heap.size→w2.heap[b]?=w.heap[b]?:=fun b hb hl=>hg.block b hl fun e=>by have:=(hlt b e.symm).1;omega
 have r2:=h.kr.push ok (m:=[x.dat]) (ElS.one rfl rx) (by rw[Ex.dats_len];exact o) hg hloc;rw[←Ex.dats_app1]at r2
 have rp2:=rp.grow ok hg (fun b e=>(h.kr.own b e).1) (by
  by_cases hh:pv.ownBlock=none
  ·exact .inl hh
  ·refine .inr fun ee=>?_;obtain⟨b,hb⟩:=Option.ne_none_iff_exists'.1 hh;have:=h.hp b hb;have:=(hlt b (by rw[←ee];exact hb)).1
   omega)
 have be2:Lb c g w2 E [.int .i64 3,.int .i64 0,.int .i64 0,.int .i64 0,d,.slice none 0 0]:=⟨h.be.bx.kept hg.size (hb E (by omega) h.be.bx.lt),h.be.s,h.be.d,h.be.hi⟩
 have bs2:Lb c g w2 S [.int .i64 6,.int .i64 0,.int .i64 0,.int .i64 0,nm,kv]:=⟨h.bs.bx.kept hg.size (hb S (Nat.le_refl _) h.bs.bx.lt),h.bs.s,h.bs.d,h.bs.hi⟩
 have o3:OnlyK S w2 w3:=by rw[h3];exact (OnlyK.refl _ _).set 5 _
 have ov3:=(Ov.only x2.ec.gs.ok o3 bs2.s).sub;refine⟨⟨l++[x],by simp,⟨⟨x2.ec.own bs2 (by omega) o3,fun p q=>?_⟩,(h.pf.nm.sub ov2).sub ov3,⟨ys,rp2.only x2.ec.gs.ok o3 bs2.s (fun e=>by have:=h.hp S e;omega)⟩,h.pf.ok,h.pf.rr,h.pf.ne⟩,be2.only o3 (by omega),⟨by rw[h3];exact bs2.bx.set 5 kv' (by simp),bs2.s,bs2.d,bs2.hi⟩,r2.only x2.ec.gs.ok o3 bs2.s (fun e=>by have:=(r2.row.lt S e).1;omega),Ex.goods_app1 _ _ h.gd gx,(h.dn.sub ov2).sub ov3,h.fe,h.es,h.hp,h.h0⟩,bs2.bx,be2.bx⟩
 have hpS:p.1≠S:=by
  simp at q;rcases q with rfl|rfl <;> (try simp) <;> omega
 exact⟨(x2.bx p q).1.only o3 hpS,(x2.bx p q).2⟩
noncomputable def fnB3:Code:=rt (rt (rt (rt fnB2)))
theorem fn_B2 {c:Dx}{v:Gv}{g:GS}{w:World}{F R:Nat}{nm:Value}{rk rn:Int}(h0:w.heap.size≤F) (Q:Ending→World→Prop) {K0:Act→World→Prop}(y2 y3:Value) (ps:List Pa) (HB3:∀ (E S:Nat) (a0:Option Addr) (n0 c0:Nat) us w',(∃ (g1:GS) (nv tv xv pv kv:Value) (l:List Ex) (xs:List Value),Pk c { v with nv:=nv,tv:=tv,xv:=xv,n:=ps.length,rk:=rk,rn:=rn } g w F R E S nm pv rk rn ps (.slice a0 n0 c0) kv l xs g1 w'∧l.length≤4)→Code.wp Tryz.prog fnB3 (Exit.then K0 (bodyPost Tryz.prog Tryz.f40 Q)) { tmps:=([.pointer (some ⟨c.G,0,none⟩),us 1,us 2,y3,us 4,us 5,us 6,us 7,.pointer (some ⟨R,0,none⟩),.pointer (some ⟨F,0,none⟩),us 10,us 11,us 12,us 13,us 14,us 15,.pointer (some ⟨E,0,none⟩),.pointer (some ⟨S,0,none⟩)]++tl us 18 193).toArray,defers:=[] } w') (P:Nat) (a0:Option Addr) (n0 c0:Nat) (us:Nat→Value) (w5:World) (g5:GS) (nv tv xv pv:Value) (h1:1≤ps.length) (h4:ps.length≤4) (X5:Hid (Pf c { v with nv:=nv,tv:=tv,xv:=xv,n:=ps.length,rk:=rk,rn:=rn } g w F R nm pv rk rn (.slice none 0 0) ps g5 w5∧Lb c g5 w5 P [.slice a0 n0 c0,.int .i64 1,.int .i64 0]∧NmS (mask g5 w5) (.slice a0 n0 c0))):Code.wp Tryz.prog fnB2 (Exit.then K0 (bodyPost Tryz.prog Tryz.f40 Q)) { tmps:=([.pointer (some ⟨c.G,0,none⟩),nm,y2,y3,us 4,us 5,us 6,us 7,.pointer (some ⟨R,0,none⟩),.pointer (some ⟨F,0,none⟩),us 10,us 11,us 12,us 13,.pointer (some ⟨P,0,none⟩)]++tl us 15 196).toArray,defers:=[] } w5:=by
 obtain⟨i0,hi0,hz0,hz1,hz2⟩:=info_parts Tryz.info89;show Code.wp _ (Code.seq _ _) _ _ _;dsimp only [List.cons_append,List.nil_append,tl,Nat.reduceAdd];obtain⟨na,nn,nc,hna⟩:=X5.out.1.nm.slice;subst hna;obtain⟨ys,rp⟩:=X5.out.1.rw;have rowp:=rp.row;rw[Pa.dats_len]at rowp;obtain⟨va,vc,hva⟩:=zac rowp;subst hva;clear rp rowp;obtain⟨wA,hwA⟩:=hidx ((w5.alloc (.cells #[.int .i64 3,.int .i64 0,.int .i64 0,.int .i64 0,.slice a0 n0 c0,.slice none 0 0] 89)).alloc (.cells #[.int .i64 6,.int .i64 0,.int .i64 0,.int .i64 0,.slice na nn nc,.slice none 0 0] 89));have pk:=Pk.start X5.out.1 h0 X5.out.2.2 hwA.out;have XA:Hid _:=pk;obtain⟨bp0,_⟩:=X5.out.2.1.bx.cell 0 _ rfl;clear X5 pk;go_wp2_with fail
 rw[←hwA.out];clear hwA bp0
 generalize w5.heap.size+1=S at *
 generalize w5.heap.size=E at *
 go_loopw [18] (fun i' wr=>∃ (i:Nat) (gk:GS) (kv:Value) (l:List Ex) (xs:List Value),i'=.int .i64 (i:Int)∧i+1≤ps.length∧l.length≤i∧Pk c { v with nv:=nv,tv:=tv,xv:=xv,n:=ps.length,rk:=rk,rn:=rn } g w F R E S (.slice na nn nc) (.slice va ps.length vc) rk rn ps (.slice a0 n0 c0) (kv) l xs gk wr) (fun i' _=>ps.length - (intOf i').toNat)
 case atStart=>exact⟨0,g5,_,[],[],rfl,h1,Nat.le_refl _,XA.out⟩
 case round =>
  clear XA;obtain⟨i,gk,kv,l,xs,rfl,hi,hl,p0⟩:=hrel;have rowk:=p0.kr.row;rw[Ex.dats_len]at rowk;obtain⟨ka,kc,hka⟩:=zac rowk;subst hka;have c5F:=p0.pf.zx.b0.bx.c5;obtain⟨⟨⟨qs0,fs0⟩,⟨qs1,fs1⟩,⟨qs2,fs2⟩,⟨qs3,fs3⟩,⟨qs4,fs4⟩,⟨qs5,fs5⟩⟩,qsl⟩:=p0.bs.bx.c6;by_cases hlt:i+1<ps.length
  ·have i1:(i:Int)+1<(ps.length:Int):=by omega
   have i3:(i:Int)<(ps.length:Int):=by omega
   obtain⟨b,u0,m0,q0,e3,hbl,z0,z1,z2,_⟩:=p0.pf.paAt i (by omega);have htn:=p0.pf.ok i (by omega);subst e3
   generalize ps[i].tk=tk at *
   generalize ps[i].tn=tn at *
   have X0:Hid (Pk c { v with nv:=nv,tv:=tv,xv:=xv,n:=ps.length,rk:=rk,rn:=rn } g w F R E S (.slice na nn nc) (.slice (some ⟨b,0,none⟩) ps.length vc) rk rn ps (.slice a0 n0 c0) (.slice ka l.length kc) l xs gk wr):=p0;have HC:Hid (∀ w',Later wr w'→Calls Tryz.prog 60 #[.pointer (some ⟨c.G,0,none⟩),.agg #[.int .i64 tk,.int .i64 tn],.int .i64 1] w' fun e w2=>∃ u,e=.returned u∧CallR c { v with nv:=nv,tv:=tv,xv:=xv,n:=ps.length,rk:=rk,rn:=rn } gk wr ExV u w2):=fun w' q=>AnsP.call q (ex_all 1 (by decide) (by decide) c gk w' _ tk tn (p0.later q).pf.zx.ec.gs htn);obtain⟨⟨⟨qa0,f0⟩,⟨qa1,f1⟩,⟨qa2,f2⟩,⟨qa3,f3⟩,⟨qa4,f4⟩⟩,qal⟩:=p0.pf.zx.b0.bx.c5;clear p0 rowk c5F htn;go_upto_region 31 with fail
   go_region_law (first
    | (refine zaa rfl 60 zax _ _ rfl [.pointer (some ⟨c.G,0,none⟩),.agg #[.int .i64 tk,.int .i64 tn],.int .i64 1] rfl _ (HC.out _ (Later.drew _)) ?_;rintro u6 w6 ⟨g6,s6,k6,yk,yn,ytk,ytn,ya0,yn0,yc0,ya1,yn1,yc1,rfl,hy⟩;have x6:=X0.out.call s6 k6;have row6:=x6.kr.row;rw[Ex.dats_len]at row6;have bs6:S+1≤w6.heap.size:=x6.bs.bx.lt;obtain⟨⟨⟨qb0,j0⟩,⟨qb1,j1⟩,⟨qb2,j2⟩,⟨qb3,j3⟩,⟨qb4,j4⟩,⟨qb5,j5⟩⟩,qbl⟩:=x6.bs.bx.c6)
    | (refine zae rfl _ _ 87 rfl (S+1) 89 i0 (.agg #[.int .i64 0,.int .i64 0,.int .i64 0,.int .i64 0,.slice none 0 0,.slice none 0 0]) 6 80 Tryz.underlying87 hi0 hz0 hz1 hz2 rfl (by decide) _ _ _ rfl (row6.alloc _) _ 1 1 [.int .i64 yk,.int .i64 yn,.int .i64 ytk,.int .i64 ytn,.slice ya0 yn0 yc0,.slice ya1 yn1 yc1] rfl rfl (zao _ _ _ rfl) (by simp[Value.oneCell']) (by unfold maxLen;omega) (by omega) (Nat.le_trans bs6 (later1 _ _).size) ?_;intro v7 w7 o7 g7 h7;obtain⟨a7,c7,hv7⟩:=zac o7;subst hv7;obtain⟨⟨l7,e7,p7⟩,b7,bE7⟩:=(x6.later (later1 w6 (.cells #[.int .i64 yk,.int .i64 yn,.int .i64 ytk,.int .i64 ytn,.slice ya0 yn0 yc0,.slice ya1 yn1 yc1] 89))).push (hy.sub (Ov.later x6.pf.zx.ec.gs.ok (later1 w6 (.cells #[.int .i64 yk,.int .i64 yn,.int .i64 ytk,.int .i64 ytn,.slice ya0 yn0 yc0,.slice ya1 yn1 yc1] 89))).sub) o7 g7 h7 rfl;obtain⟨⟨⟨qc0,i0⟩,⟨qc1,i1⟩,⟨qc2,i2⟩,⟨qc3,i3⟩,⟨qc4,i4⟩,⟨qc5,i5⟩⟩,qcl⟩:=b7.c6;have E7:Hid _:=e7;clear e7))
   all_goals
    have HM:Hid (∃ (i':Nat) (gk:GS) (kv:Value) (l:List Ex) (xs:List Value),Value.int .i64 ((i:Int)+1)=.int .i64 (i':Int)∧i'+1≤ps.length∧l.length≤i'∧Pk c { v with nv:=nv,tv:=tv,xv:=xv,n:=ps.length,rk:=rk,rn:=rn } g w F R E S (.slice na nn nc) (.slice (some ⟨b,0,none⟩) ps.length vc) rk rn ps (.slice a0 n0 c0) (kv) l xs gk _):=⟨i+1,g6,_,l7,_,by simp,by omega,by have:=E7.out;omega,p7⟩
    clear p7 x6 X0 HC s6 k6 row6 hy o7 g7 h7 b7 bE7;go_wp2_with fail
    go_roundw
    case rel=>exact HM.out
    case measure=>simp[intOf];omega
  ·have i1:¬ (i:Int)+1<(ps.length:Int):=by omega
   have i2:decide ((i:Int)+1<(ps.length:Int))=false:=decide_eq_false i1;obtain⟨⟨⟨qa0,f0⟩,⟨qa1,f1⟩,⟨qa2,f2⟩,⟨qa3,f3⟩,⟨qa4,f4⟩⟩,qal⟩:=p0.pf.zx.b0.bx.c5;have X0:Hid (Pk c { v with nv:=nv,tv:=tv,xv:=xv,n:=ps.length,rk:=rk,rn:=rn } g w F R E S (.slice na nn nc) (.slice va ps.length vc) rk rn ps (.slice a0 n0 c0) (.slice ka l.length kc) l xs gk wr):=p0;have hkc:l.length≤3:=by omega
   clear p0 rowk c5F;go_upto_region 32 with fail
   refine zdc (fun us=>([.pointer (some ⟨c.G,0,none⟩),us 1,us 2,y3,us 4,us 5,us 6,us 7,.pointer (some ⟨R,0,none⟩),.pointer (some ⟨F,0,none⟩),us 10,us 11,us 12,us 13,us 14,us 15,.pointer (some ⟨E,0,none⟩),.pointer (some ⟨S,0,none⟩)]++tl us 18 193)) (fun w'=>(∃ (g1:GS) (nv tv xv pv kv:Value) (l:List Ex) (xs:List Value),Pk c { v with nv:=nv,tv:=tv,xv:=xv,n:=ps.length,rk:=rk,rn:=rn } g w F R E S (.slice na nn nc) pv rk rn ps (.slice a0 n0 c0) kv l xs g1 w'∧l.length≤4)) ?rest ?first
   case rest =>
    intro us1 w6 hcut;go_step
    exact HB3 E S a0 n0 c0 us1 w6 hcut
   case first =>
    intro J0 K1 hJ0 hK1;clear HB3;have hbn:∀ (z:Int) w0 w',Later w0 w'→Calls Tryz.prog 44 #[.int .i64 z] w' fun e w2=>∃ u,e=.returned u∧(Later w0 w'∧u=.agg #[.int .i64 0,.int .i64 z,.int .i64 0,.int .i64 0,.slice none 0 0,.slice none 0 0]∧Later w' w2):=fun z w0 w' l=>(zbu z w').mono (fun e w2 q=>⟨_,q.1,l,rfl,q.2⟩)
    have hE3:ExS (mask gk wr) 3 0 0 0 (.slice a0 n0 c0) (.slice none 0 0):=⟨X0.out.dn,KsS.nil _,by unfold InR;omega⟩
    have kd:Hid (wr.drew.cell? ⟨E,0,none⟩=some (.int .i64 3)∧wr.drew.cell? ⟨E,1,none⟩=some (.int .i64 0)∧wr.drew.cell? ⟨E,2,none⟩=some (.int .i64 0)∧wr.drew.cell? ⟨E,3,none⟩=some (.int .i64 0)∧wr.drew.cell? ⟨E,4,none⟩=some (.slice a0 n0 c0)∧wr.drew.cell? ⟨E,5,none⟩=some (.slice none 0 0)):=⟨((X0.out.later (Later.drew wr)).be.bx.cell 0 _ rfl).1,((X0.out.later (Later.drew wr)).be.bx.cell 1 _ rfl).1,((X0.out.later (Later.drew wr)).be.bx.cell 2 _ rfl).1,((X0.out.later (Later.drew wr)).be.bx.cell 3 _ rfl).1,((X0.out.later (Later.drew wr)).be.bx.cell 4 _ rfl).1,((X0.out.later (Later.drew wr)).be.bx.cell 5 _ rfl).1⟩
    have k0:Hid (wr.cell? ⟨E,0,none⟩=some (.int .i64 3)∧wr.cell? ⟨E,1,none⟩=some (.int .i64 0)∧wr.cell? ⟨E,2,none⟩=some (.int .i64 0)∧wr.cell? ⟨E,3,none⟩=some (.int .i64 0)∧wr.cell? ⟨E,4,none⟩=some (.slice a0 n0 c0)∧wr.cell? ⟨E,5,none⟩=some (.slice none 0 0)):=⟨(X0.out.be.bx.cell 0 _ rfl).1,(X0.out.be.bx.cell 1 _ rfl).1,(X0.out.be.bx.cell 2 _ rfl).1,(X0.out.be.bx.cell 3 _ rfl).1,(X0.out.be.bx.cell 4 _ rfl).1,(X0.out.be.bx.cell 5 _ rfl).1⟩
    obtain⟨tt0,tt1,tt2,tt3,tt4,tt5⟩:=k0.out;have hLd:∀ t o,Ldt t o=Op.load t o:=fun _ _=>rfl;rw[show Op.load 87 (Operand.tmp 160)=Ldt 87 (Operand.tmp 160) from rfl]
    go_region_held3 (fun w'=>w'.cell? ⟨E,0,none⟩=some (.int .i64 3)∧w'.cell? ⟨E,1,none⟩=some (.int .i64 0)∧w'.cell? ⟨E,2,none⟩=some (.int .i64 0)∧w'.cell? ⟨E,3,none⟩=some (.int .i64 0)∧w'.cell? ⟨E,4,none⟩=some (.slice a0 n0 c0)∧w'.cell? ⟨E,5,none⟩=some (.slice none 0 0)) (first|with_reducible exact kd.out|with_reducible exact ke.out|with_reducible exact kf.out|with_reducible exact kfa.out _|with_reducible exact kg.out|with_reducible exact kh.out) (first
     | ((fail_if_success (have _g:=xe));refine zaa rfl 44 zcy _ _ rfl [.int .i64 1] rfl _ (hbn 1 wr _ (Later.drew _)) ?_;rintro ue we ⟨Le,rfl,le⟩;have xe:=(X0.out.later Le).later le;have hee:=(hE3.sub (Ov.later X0.out.pf.zx.ec.gs.ok Le).sub).sub (Ov.later (X0.out.later Le).pf.zx.ec.gs.ok le).sub;have ke:Hid (we.cell? ⟨E,0,none⟩=some (.int .i64 3)∧we.cell? ⟨E,1,none⟩=some (.int .i64 0)∧we.cell? ⟨E,2,none⟩=some (.int .i64 0)∧we.cell? ⟨E,3,none⟩=some (.int .i64 0)∧we.cell? ⟨E,4,none⟩=some (.slice a0 n0 c0)∧we.cell? ⟨E,5,none⟩=some (.slice none 0 0)):=⟨(xe.be.bx.cell 0 _ rfl).1,(xe.be.bx.cell 1 _ rfl).1,(xe.be.bx.cell 2 _ rfl).1,(xe.be.bx.cell 3 _ rfl).1,(xe.be.bx.cell 4 _ rfl).1,(xe.be.bx.cell 5 _ rfl).1⟩;obtain⟨⟨⟨qb0,j0⟩,⟨qb1,j1⟩,⟨qb2,j2⟩,⟨qb3,j3⟩,⟨qb4,j4⟩,⟨qb5,j5⟩⟩,qbl⟩:=xe.bs.bx.c6)
     | ((fail_if_success (have _g:=xf));have _g:=xe;refine zaa rfl 61 zcf _ _ rfl [.int .i64 1,.agg #[.int .i64 3,.int .i64 0,.int .i64 0,.int .i64 0,.slice a0 n0 c0,.slice none 0 0],.agg #[.int .i64 0,.int .i64 1,.int .i64 0,.int .i64 0,.slice none 0 0,.slice none 0 0]] rfl _ (AnsP.call (Later.refl _) (zbr xe.pf.zx.ec.gs 1 3 0 0 0 0 1 0 0 (by unfold InR;omega) _ _ _ _ _ _ _ _ _ _ _ _ hee ⟨NmS.nil _,KsS.nil _,by unfold InR;omega⟩)) ?_;rintro uf wf ⟨gf,sf,kf',yk,yn,ytk,ytn,ya0,yn0,yc0,ya1,yn1,yc1,rfl,hy⟩;have xf:=xe.call sf kf';have row6:=xf.kr.row;rw[Ex.dats_len]at row6;have bs6:S+1≤wf.heap.size:=xf.bs.bx.lt;have kf:Hid (wf.cell? ⟨E,0,none⟩=some (.int .i64 3)∧wf.cell? ⟨E,1,none⟩=some (.int .i64 0)∧wf.cell? ⟨E,2,none⟩=some (.int .i64 0)∧wf.cell? ⟨E,3,none⟩=some (.int .i64 0)∧wf.cell? ⟨E,4,none⟩=some (.slice a0 n0 c0)∧wf.cell? ⟨E,5,none⟩=some (.slice none 0 0)):=⟨(xf.be.bx.cell 0 _ rfl).1,(xf.be.bx.cell 1 _ rfl).1,(xf.be.bx.cell 2 _ rfl).1,(xf.be.bx.cell 3 _ rfl).1,(xf.be.bx.cell 4 _ rfl).1,(xf.be.bx.cell 5 _ rfl).1⟩;have kfa:Hid (∀ o:Obj,(wf.alloc o).cell? ⟨E,0,none⟩=some (.int .i64 3)∧(wf.alloc o).cell? ⟨E,1,none⟩=some (.int .i64 0)∧(wf.alloc o).cell? ⟨E,2,none⟩=some (.int .i64 0)∧(wf.alloc o).cell? ⟨E,3,none⟩=some (.int .i64 0)∧(wf.alloc o).cell? ⟨E,4,none⟩=some (.slice a0 n0 c0)∧(wf.alloc o).cell? ⟨E,5,none⟩=some (.slice none 0 0)):=fun o=>⟨((xf.later (later1 _ o)).be.bx.cell 0 _ rfl).1,((xf.later (later1 _ o)).be.bx.cell 1 _ rfl).1,((xf.later (later1 _ o)).be.bx.cell 2 _ rfl).1,((xf.later (later1 _ o)).be.bx.cell 3 _ rfl).1,((xf.later (later1 _ o)).be.bx.cell 4 _ rfl).1,((xf.later (later1 _ o)).be.bx.cell 5 _ rfl).1⟩;obtain⟨⟨⟨qg0,jg0⟩,⟨qg1,jg1⟩,⟨qg2,jg2⟩,⟨qg3,jg3⟩,⟨qg4,jg4⟩,⟨qg5,jg5⟩⟩,qgl⟩:=xf.bs.bx.c6)
     | (have _g:=xf;refine zae rfl _ _ 87 rfl (S+1) 89 i0 (.agg #[.int .i64 0,.int .i64 0,.int .i64 0,.int .i64 0,.slice none 0 0,.slice none 0 0]) 6 80 Tryz.underlying87 hi0 hz0 hz1 hz2 rfl (by decide) _ _ _ rfl (row6.alloc _) _ 1 1 [.int .i64 yk,.int .i64 yn,.int .i64 ytk,.int .i64 ytn,.slice ya0 yn0 yc0,.slice ya1 yn1 yc1] rfl rfl (zao _ _ _ rfl) (by simp[Value.oneCell']) (by unfold maxLen;omega) (by omega) (Nat.le_trans bs6 (later1 _ _).size) ?_;intro v7 w7 o7 g7 h7;obtain⟨a7,c7,hv7⟩:=zac o7;subst hv7;obtain⟨⟨l7,e7,p7⟩,b7,bE7⟩:=(xf.later (later1 wf (.cells #[.int .i64 yk,.int .i64 yn,.int .i64 ytk,.int .i64 ytn,.slice ya0 yn0 yc0,.slice ya1 yn1 yc1] 89))).push (hy.sub (Ov.later xf.pf.zx.ec.gs.ok (later1 wf (.cells #[.int .i64 yk,.int .i64 yn,.int .i64 ytk,.int .i64 ytn,.slice ya0 yn0 yc0,.slice ya1 yn1 yc1] 89))).sub) o7 g7 h7 rfl;have kg:Hid (w7.cell? ⟨E,0,none⟩=some (.int .i64 3)∧w7.cell? ⟨E,1,none⟩=some (.int .i64 0)∧w7.cell? ⟨E,2,none⟩=some (.int .i64 0)∧w7.cell? ⟨E,3,none⟩=some (.int .i64 0)∧w7.cell? ⟨E,4,none⟩=some (.slice a0 n0 c0)∧w7.cell? ⟨E,5,none⟩=some (.slice none 0 0)):=⟨(bE7.cell 0 _ rfl).1,(bE7.cell 1 _ rfl).1,(bE7.cell 2 _ rfl).1,(bE7.cell 3 _ rfl).1,(bE7.cell 4 _ rfl).1,(bE7.cell 5 _ rfl).1⟩;have kh:Hid ((w7.setCell ⟨S,5,none⟩ (.slice a7 (l.length+1) c7)).cell? ⟨E,0,none⟩=some (.int .i64 3)∧(w7.setCell ⟨S,5,none⟩ (.slice a7 (l.length+1) c7)).cell? ⟨E,1,none⟩=some (.int .i64 0)∧(w7.setCell ⟨S,5,none⟩ (.slice a7 (l.length+1) c7)).cell? ⟨E,2,none⟩=some (.int .i64 0)∧(w7.setCell ⟨S,5,none⟩ (.slice a7 (l.length+1) c7)).cell? ⟨E,3,none⟩=some (.int .i64 0)∧(w7.setCell ⟨S,5,none⟩ (.slice a7 (l.length+1) c7)).cell? ⟨E,4,none⟩=some (.slice a0 n0 c0)∧(w7.setCell ⟨S,5,none⟩ (.slice a7 (l.length+1) c7)).cell? ⟨E,5,none⟩=some (.slice none 0 0)):=⟨(p7.be.bx.cell 0 _ rfl).1,(p7.be.bx.cell 1 _ rfl).1,(p7.be.bx.cell 2 _ rfl).1,(p7.be.bx.cell 3 _ rfl).1,(p7.be.bx.cell 4 _ rfl).1,(p7.be.bx.cell 5 _ rfl).1⟩;obtain⟨⟨⟨qc0,i0⟩,⟨qc1,i1⟩,⟨qc2,i2⟩,⟨qc3,i3⟩,⟨qc4,i4⟩,⟨qc5,i5⟩⟩,qcl⟩:=b7.c6;have E7:Hid _:=e7;clear e7))
    all_goals
     have HM:Hid (∃ (g1:GS) (nv tv xv pv kv:Value) (l:List Ex) (xs:List Value),Pk c { v with nv:=nv,tv:=tv,xv:=xv,n:=ps.length,rk:=rk,rn:=rn } g w F R E S (.slice na nn nc) pv rk rn ps (.slice a0 n0 c0) kv l xs g1 _∧l.length≤4):=⟨gf,_,_,_,_,_,l7,_,p7,by have:=E7.out;omega⟩
     clear p7 xf xe X0 hbn hE3 kd k0 ke kf kfa kg kh hee sf kf' row6 hy o7 g7 h7 b7 bE7 hLd;go_wp2_with fail
     exact meetG hJ0 rfl HM.out
end Go.Proofs.YtgholpilmdebmaaGreatDoor
namespace Go.Proofs.YtgholpilmdebmaaGreatDoor
def updS (us:Nat→Value) (k:Nat) (v:Value):Nat→Value:=fun i=>if i=k then v else us i
def cntF (l:Array Bool):Nat:=l.toList.countP fun b=>!b
theorem countP_set:∀ (l:List Bool) (i:Nat),l[i]?=some false→(l.set i true).countP (fun b=>!b)+1=l.countP fun b=>!b
 | [],i,h=>by simp at h
 | b::l,0,h=>by
  simp at h;subst h;simp
 | b::l,i+1,h=>by
  have:=countP_set l i (by simpa using h);rw[List.set_cons_succ,List.countP_cons,List.countP_cons];omega
theorem cntF_set {l:Array Bool}{i:Nat}(h:l.getD i true=false):cntF (l.setIfInBounds i true)+1=cntF l:=by
 obtain⟨l⟩:=l
 have h2:l[i]?=some false:=by
  by_cases hi:i<l.length
  ·simp[Array.getD,hi]at h;rw[List.getElem?_eq_getElem hi,h]
  ·simp[Array.getD,hi]at h
 have:=countP_set l i h2;simpa[cntF] using this
theorem zbz {md:Region.Mode}{ops:Array Oper}{l:Array Bool}{i:Nat}(h:i∈Region.ready md ops l):i<ops.size∧l.getD i true=false∧((ops[i]?).map (·.after.all fun e=>!Region.binds md e||l.getD e.on false)).getD false=true:=by
 obtain⟨h1,h2⟩:=List.mem_filter.1 h;rw[Bool.and_eq_true]at h2;exact⟨List.mem_range.1 h1,by simpa using h2.1,h2.2⟩
theorem anyH_inv {P:Program}{md:Region.Mode}{ops:Array Oper}{Q:Exit→Act→World→Prop}{S:World→Prop}(I:Array Bool→Act→World→Prop)
  (hS:∀ l a w,I l a w→S w) (hend:∀ l a w,I l a w→Region.ready md ops l=[]→Q .normal a w)
  (step:∀ l a w i o,I l a w→i∈Region.ready md ops l→ops[i]?=some o→∀ K:Act→World→Prop,(∀ a' w',I (l.setIfInBounds i true) a' w'→K a' w')→if Region.wanted o (yielded ops a.tmps)=true then Oper.wp P o a w K Q else K (a.put o.dst undef) w) :
  ∀ n l a w,cntF l=n→I l a w→wpAnyH P md ops Q S n l a w:=by
 intro n
 induction n with
 | zero =>
  intro l a w hc h
  have h0:Region.ready md ops l=[]:=by
   refine List.eq_nil_iff_forall_not_mem.2 fun i hi=>?_;have:=cntF_set (zbz hi).2.1;omega
  exact⟨h0,hend l a w h h0⟩
 | succ n ih =>
  intro l a w hc h;by_cases h0:Region.ready md ops l=[]
  ·exact wpAnyH_done h0 (hend l a w h h0) _
  ·refine wpAnyH_all rfl h0 fun i hi=>?_;obtain⟨h1,h2,_⟩:=zbz hi;have ho:ops[i]?=some ops[i]:=Array.getElem?_eq_getElem h1;refine wpOp_step ho fun K' hK=>?_;refine step l a w i _ h hi ho K' fun a' w' h'=>hK a' w' ⟨hS _ _ _ h',ih _ _ _ ?_ h'⟩;have:=cntF_set h2;omega
theorem zag {P:Program}{ops:Array Oper}{o:Oper}{a:Act}{w:World}{K:Act→World→Prop}{Q:Exit→Act→World→Prop}{E:Prop}(hg:o.guard=none) (v:Value) (w':World) (hr:(execOp a.eval o).run P w=.ok (.value v) w') (h:K (a.put o.dst v) w'):if Region.wanted o (yielded ops a.tmps)=true then Oper.wp P o a w K Q else E:=by
 have hw:Region.wanted o (yielded ops a.tmps)=true:=by simp[Region.wanted,hg]
 rw[if_pos hw];unfold Oper.wp;rw[hr];exact h
theorem step_skip {P:Program}{ops:Array Oper}{o:Oper}{a:Act}{w:World}{K:Act→World→Prop}{Q:Exit→Act→World→Prop}{E:Prop}(hg:o.guard=none) (hd:o.dst=none) (w':World) (hr:(execOp a.eval o).run P w=.ok .skip w') (h:K a w'):if Region.wanted o (yielded ops a.tmps)=true then Oper.wp P o a w K Q else E:=by
 have hw:Region.wanted o (yielded ops a.tmps)=true:=by simp[Region.wanted,hg]
 rw[if_pos hw];unfold Oper.wp;rw[hr];show K (a.put o.dst undef) w';rw[hd];exact h
theorem zaj {md:Region.Mode}{ops:Array Oper}{l:Array Bool}{i:Nat}(h0:Region.ready md ops l=[]) (hs:l.size=ops.size) (hi:i<ops.size) (hd:((ops[i]?).map (·.after.all fun e=>!Region.binds md e||l.getD e.on false)).getD false=true):l.getD i false=true:=by
 by_cases e:l.getD i false=true
 ·exact e
 ·exfalso
  have hm:i∈Region.ready md ops l:=by
   refine List.mem_filter.2 ⟨List.mem_range.2 hi,?_⟩;rw[Bool.and_eq_true];refine⟨?_,hd⟩;have hl:i<l.size:=by omega
   simp[Array.getD,hl]at e ⊢;exact e
  rw[h0]at hm
  cases hm
end Go.Proofs.YtgholpilmdebmaaGreatDoor
namespace Go.Proofs.YtgholpilmdebmaaGreatDoor
open Go.RowKit Go.Maps
theorem ex_load {ρ:Operand→Value}{o:Oper}{x:Operand}(ho:o.op=Op.load 89 x) {E:Nat}(hx:ρ x=.pointer (some ⟨E,0,none⟩)) {w:World}{a b c d e f:Value}(hb:Bxx w E [a,b,c,d,e,f]):(execOp ρ o).run Tryz.prog w=.ok (.value (.agg #[a,b,c,d,e,f])) w:=by
 obtain⟨⟨⟨c0,_⟩,⟨c1,_⟩,⟨c2,_⟩,⟨c3,_⟩,⟨c4,_⟩,⟨c5,_⟩⟩,_⟩:=hb.c6;clear hb;unfold execOp;simp only[ho,hx];go_simp
theorem ex_slice {ρ:Operand→Value}{o:Oper}{x:Operand}(ho:o.op=Op.buildSlice 87 1 #[(0,x)]) {k n tk tn:Int}{u0 u1:Value}(h0:∃ a n c,u0=.slice a n c) (h1:∃ a n c,u1=.slice a n c) (hx:ρ x=.agg #[.int .i64 k,.int .i64 n,.int .i64 tk,.int .i64 tn,u0,u1]) (w:World):(execOp ρ o).run Tryz.prog w=.ok (.value (.slice (some ⟨w.heap.size,0,none⟩) 1 1)) (w.alloc (.cells #[.int .i64 k,.int .i64 n,.int .i64 tk,.int .i64 tn,u0,u1] 89)):=by
 obtain⟨_,_,_,rfl⟩:=h0;obtain⟨_,_,_,rfl⟩:=h1;unfold execOp;simp only[ho];go_simp
theorem ex_sliceS {ρ:Operand→Value}{o:Oper}{x:Operand}(ho:o.op=Op.buildSlice 71 1 #[(0,x)]) {k:Int}{u:Value}(hu:∃ a n c,u=.slice a n c) {u2:Value}(hu2:∃ a n c,u2=.slice a n c) (hx:ρ x=.agg #[.int .i64 k,.int .i64 0,.int .i64 0,.int .i64 0,.slice none 0 0,u,u2,.slice none 0 0]) (w:World):(execOp ρ o).run Tryz.prog w=.ok (.value (.slice (some ⟨w.heap.size,0,none⟩) 1 1)) (w.alloc (.cells #[.int .i64 k,.int .i64 0,.int .i64 0,.int .i64 0,.slice none 0 0,u,u2,.slice none 0 0] 92)):=by
 obtain⟨_,_,_,rfl⟩:=hu;obtain⟨_,_,_,rfl⟩:=hu2;unfold execOp;simp only[ho];go_simp
theorem ex_buildA {ρ:Operand→Value}{o:Oper}{x:Operand}(ho:o.op=Op.build 92 #[(0,.const (.int .i64 4)),(4,x)]) (hc:ρ (.const (.int .i64 4))=.int .i64 4) {b:Nat}(hx:ρ x=.slice (some ⟨b,0,none⟩) 1 1) (w:World):(execOp ρ o).run Tryz.prog w=.ok (.value (.agg #[.int .i64 4,.int .i64 0,.int .i64 0,.int .i64 0,.slice none 0 0,.slice (some ⟨b,0,none⟩) 1 1,.slice none 0 0,.slice none 0 0])) w:=by
 unfold execOp;simp only[ho];go_simp
theorem ex_buildB {ρ:Operand→Value}{o:Oper}{x y:Operand}(ho:o.op=Op.build 92 #[(0,.const (.int .i64 2)),(4,x),(5,y)]) (hc:ρ (.const (.int .i64 2))=.int .i64 2) {b b2:Nat}(hx:ρ x=.slice (some ⟨b,0,none⟩) 1 1) (hy:ρ y=.slice (some ⟨b2,0,none⟩) 1 1) (w:World):(execOp ρ o).run Tryz.prog w=.ok (.value (.agg #[.int .i64 2,.int .i64 0,.int .i64 0,.int .i64 0,.slice none 0 0,.slice (some ⟨b,0,none⟩) 1 1,.slice (some ⟨b2,0,none⟩) 1 1,.slice none 0 0])) w:=by
 unfold execOp;simp only[ho];go_simp
theorem ex_alloc {ρ:Operand→Value}{o:Oper}(ho:o.op=Op.alloc 92) (w:World):(execOp ρ o).run Tryz.prog w=.ok (.value (.pointer (some ⟨w.heap.size,0,none⟩))) (w.alloc (.cells #[.int .i64 0,.int .i64 0,.int .i64 0,.int .i64 0,.slice none 0 0,.slice none 0 0,.slice none 0 0,.slice none 0 0] 92)):=by
 unfold execOp;simp only[ho];go_simp
theorem ex_store {ρ:Operand→Value}{o:Oper}{x y:Operand}(ho:o.op=Op.store 92 x y) {T:Nat}{b b2:Nat}(hx:ρ x=.pointer (some ⟨T,0,none⟩)) (hy:ρ y=.agg #[.int .i64 2,.int .i64 0,.int .i64 0,.int .i64 0,.slice none 0 0,.slice (some ⟨b,0,none⟩) 1 1,.slice (some ⟨b2,0,none⟩) 1 1,.slice none 0 0]) {w:World}{x0 x1 x2 x3 x4 x5 x6 x7:Value}(hb:Bxx w T [x0,x1,x2,x3,x4,x5,x6,x7]):∃ w',(execOp ρ o).run Tryz.prog w=.ok .skip w'∧OnlyK T w w'∧Bxx w' T [.int .i64 2,.int .i64 0,.int .i64 0,.int .i64 0,.slice none 0 0,.slice (some ⟨b,0,none⟩) 1 1,.slice (some ⟨b2,0,none⟩) 1 1,.slice none 0 0]:=by
 obtain⟨c0,f0⟩:=hb.cell 0 _ rfl;obtain⟨c1,f1⟩:=hb.cell 1 _ rfl;obtain⟨c2,f2⟩:=hb.cell 2 _ rfl;obtain⟨c3,f3⟩:=hb.cell 3 _ rfl;obtain⟨c4,f4⟩:=hb.cell 4 _ rfl;obtain⟨c5,f5⟩:=hb.cell 5 _ rfl;obtain⟨c6,f6⟩:=hb.cell 6 _ rfl;obtain⟨c7,f7⟩:=hb.cell 7 _ rfl;refine⟨((((((((w.setCell ⟨T,0,none⟩ (.int .i64 2)).setCell ⟨T,1,none⟩ (.int .i64 0)).setCell ⟨T,2,none⟩ (.int .i64 0)).setCell ⟨T,3,none⟩ (.int .i64 0)).setCell ⟨T,4,none⟩ (.slice none 0 0)).setCell ⟨T,5,none⟩ (.slice (some ⟨b,0,none⟩) 1 1)).setCell ⟨T,6,none⟩ (.slice (some ⟨b2,0,none⟩) 1 1)).setCell ⟨T,7,none⟩ (.slice none 0 0)),?_,(((((((((OnlyK.refl T w).set 0 _).set 1 _).set 2 _).set 3 _).set 4 _).set 5 _).set 6 _).set 7 _),?_⟩
 ·have hl:=hb.lt;clear hb;unfold execOp;simp only[ho,hx,hy];go_simp
 ·have h:=((((((((hb.set 0 (.int .i64 2) (by simp)).set 1 (.int .i64 0) (by simp)).set 2 (.int .i64 0) (by simp)).set 3 (.int .i64 0) (by simp)).set 4 (.slice none 0 0) (by simp)).set 5 (.slice (some ⟨b,0,none⟩) 1 1) (by simp)).set 6 (.slice (some ⟨b2,0,none⟩) 1 1) (by simp)).set 7 (.slice none 0 0) (by simp))
  exact h
theorem run_append_none {P:Program}{w:World}(base:Nat) (t ty e:TypeId) (i:TypeInfo) (size:Nat) (ht:P.underlying t=some (.slice e)) (hi:P.info? e=some i)
  (v:Value) (n:Nat) (xs:List Value) (hown:w.ownsRow base e size v n xs) (c:Nat) :
  (Builtin.append_ #[t,t] ty #[v,.slice none 0 c]).run P w=.ok v w:=by
 rcases hown.2 with ⟨rfl,rfl⟩|⟨g,cap,cur,rfl,_,_,hnc,_⟩
 ·simp[Builtin.append_,run_underlying ht,sizeOf,typeInfo,hi,Builtin.lenOf,Builtin.firstCells]
 ·simp[Builtin.append_,run_underlying ht,sizeOf,typeInfo,hi,Builtin.lenOf,Builtin.firstCells,hnc,storeCells]
theorem zby {P:Program}{ops:Array Oper}{o:Oper}{a:Act}{w:World}{K:Act→World→Prop}{Q:Exit→Act→World→Prop}{E:Prop}
  (hg:o.guard=none) (s x:Operand) (t:TypeId) (hop:o.op=Op.call { callee:=Callee.builtin Builtin.append,args:=#[s,x],argTypes:=#[t,t] })
  (base:Nat) (e:TypeId) (i:TypeInfo) (z:Value) (bytes:Nat) (ht:P.underlying t=some (.slice e)) (hi:P.info? e=some i) (hz:i.zero=some z)
  (hsize:i.size=1) (hby:i.bytes=bytes) (hzs:z.cells.size=1)
  (v:Value) (n:Nat) (xs:List Value) (hs:a.eval s=v) (hown:w.ownsRow base e 1 v n xs)
  (u:Value) (zs:List Int) (hx:a.eval x=u) (hr:RdN w u zs)
  (h63:n+zs.length≤maxLen) (hbytes:(n+zs.length)*bytes≤140737488355328) (hbase:base≤w.heap.size)
  (h:∀ v' w',w'.ownsRow base e 1 v' (n+zs.length) (xs++zs.map (Value.int .u8))→w.grownBy w' v.ownBlock→(v'.ownBlock=v.ownBlock∨v'.ownBlock=some w.heap.size)→K (a.put o.dst v') w') :
  if Region.wanted o (yielded ops a.tmps)=true then Oper.wp P o a w K Q else E:=by
 obtain⟨ad0,cap,e1,hl,hb,hc⟩:=hr.rd
 cases ad0 with
 | none =>
  have h0:zs=[]:=by
   cases zs with
   | nil=>rfl
   | cons y r=>obtain⟨g,off,q,_⟩:=hc 0 (by simp);cases q
  subst h0;have e2:u=.slice none 0 cap:=e1;have hw:Region.wanted o (yielded ops a.tmps)=true:=by simp[Region.wanted,hg]
  rw[if_pos hw];have hrun:=run_append_none (P:=P) (w:=w) base t o.type e i 1 ht hi v n xs hown cap;unfold Oper.wp execOp;simp only[hop,resolve,invoke,builtin,Sem.run_bind,Sem.run_pure,Result.andThen_ok,List.map_toArray,List.map_cons,List.map_nil,hs,hx,e2,hrun];refine h v w (by simpa using hown) ⟨rfl,rfl,rfl,Nat.le_refl _,fun _ _ _=>rfl⟩ (.inl rfl)
 | some ad =>
  rcases Nat.eq_zero_or_pos zs.length with h0|h0
  ·have hz0:zs=[]:=List.eq_nil_of_length_eq_zero h0;subst hz0;exact zae hg s x t hop base e i z 1 bytes ht hi hz hsize hby hzs (by decide) v n xs hs hown ad 0 cap [] (by rw[hx,e1];rfl) rfl (fun j u q=>by cases q) (fun u q=>by cases q) h63 hbytes hbase h
  ·obtain⟨g,off,q,_⟩:=hc 0 h0
   cases q
   refine zae hg s x t hop base e i z 1 bytes ht hi hz hsize hby hzs (by decide) v n xs hs hown ⟨g,off,none⟩ zs.length cap (zs.map (Value.int .u8)) (by rw[hx,e1]) (by rw[List.length_map,Nat.mul_one]) (fun j u q=>?_) (fun u q=>?_) h63 hbytes hbase h
   ·have hj:j<zs.length:=by have:=(List.getElem?_eq_some_iff.1 q).1;rwa [List.length_map]at this
    obtain⟨g2,off2,q2,_,c2⟩:=hc j hj
    cases q2
    rw[show (⟨g,off,none⟩:Addr).add j=⟨g,off+j,none⟩ from by simp[Addr.add]];rw[c2];rw[List.getElem?_map,List.getElem?_eq_getElem hj]at q;simp only[Option.map_some,Option.some.injEq]at q;rw[←q];simp[List.getD,List.getElem?_eq_getElem hj]
   ·obtain⟨y,_,rfl⟩:=List.mem_map.1 q;rfl
theorem empty_row {w:World}{base:Nat}(hb:base≤w.heap.size):(w.alloc (.cells #[] 5)).ownsRow base 5 1 (.slice (some ⟨w.heap.size,0,none⟩) 0 0) 0 []:=World.ownsRow_lit w #[] 0 hb (by unfold maxLen;omega) rfl
end Go.Proofs.YtgholpilmdebmaaGreatDoor
