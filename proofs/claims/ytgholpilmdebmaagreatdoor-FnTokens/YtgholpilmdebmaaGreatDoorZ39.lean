import Derived.Test.YtgholpilmdebmaaGreatDoorZ30
import Derived.Test.YtgholpilmdebmaaGreatDoorZ38
import Derived.Deep.Cut
import Derived.Deep.CutBlock
import Derived.Deep.RegionHeld3
set_option maxHeartbeats 100000000
set_option maxRecDepth 100000
namespace Go.Proofs.YtgholpilmdebmaaGreatDoor
open Go.RowKit Go.Maps
theorem Gs.res {c:Dx}{g:GS}{w w':World}{v:Gv}(h:Gs c g w v) (a b:Int) (hb:InR b) (hw:w'=(w.setCell ⟨c.G,8,none⟩ (.int .i64 a)).setCell ⟨c.G,9,none⟩ (.int .i64 b)):Gs c g w' { v with rk:=a,rn:=b }∧Stp g w g w':=by
 obtain⟨nx,lf,hx⟩:=h.box;have o:OnlyK c.G w w':=by rw[hw];exact ((OnlyK.refl c.G w).set 8 _).set 9 _
 have hx2:Bxx w' c.G [.pointer (some ⟨c.K,0,none⟩),v.sv,v.fv,v.nv,v.tv,v.xv,.int .i64 nx,.int .i64 lf,.int .i64 a,.int .i64 b]:=by rw[hw];exact (hx.set 8 (.int .i64 a) (by simp)).set 9 (.int .i64 b) (by simp)
 obtain⟨hc,ov,hr⟩:=h.curG o;obtain⟨xf,f1,f2⟩:=h.fs;obtain⟨xn,n1,n2⟩:=h.nm;obtain⟨lt,t0,t1,t2⟩:=h.ty;obtain⟨lx,x1⟩:=h.fx;exact⟨⟨h.ok.later o.size,hc,h.dK,h.dG,h.kg,⟨nx,lf,hx2⟩,h.ss.sub ov.sub,h.sok,⟨xf,hr f1,ElS.sub ov.sub _ f2⟩,h.fok,⟨xn,hr n1,fun u q=>(n2 u q).sub ov.sub⟩,⟨lt,t0,hr t1,t2⟩,⟨lx,hr x1⟩,h.df,h.dn,h.dt,h.dx,h.few,hb⟩,(Stp.refl g w).only o (.inr h.dG)⟩
theorem Zx.grown {c:Dx}{v:Gv}{g0 g:GS}{w0 w w2:World}{xs:List (Nat × List Value)}(h:Zx c v g0 w0 xs g w) {B k:Nat}{t:TypeId}{u:Value}{l:List Dat}{ys:List Value}(r:Rw g w B t k u l ys) (hB:w0.heap.size≤B) (hG:c.G<B) (hx:∀ p∈xs,p.1<B) (hg:w.grownBy w2 u.ownBlock):Zx c v g0 w0 xs g w2∧Sub (mask g w) (mask g w2):=by
 have hlt:=r.row.lt;have ok:=h.ec.gs.ok
 have g2:Gs c g w2 v:=h.ec.gs.grow hg fun b e=>⟨(r.own b e).1,(r.own b e).2,by have:=(hlt b e).1;omega⟩
 have s2:Stp g0 w0 g w2:=h.ec.st.grow hg fun b e=>.inl (by have:=(hlt b e).1;omega);exact⟨⟨⟨s2,g2⟩,fun p q=>⟨⟨(h.bx p q).1.bx.kept hg.size (hg.block p.1 (h.bx p q).1.bx.lt fun e=>by have:=(hlt p.1 e.symm).1;have:=hx p q;omega),(h.bx p q).1.s,(h.bx p q).1.d,(h.bx p q).1.hi⟩,(h.bx p q).2⟩⟩,(Ov.grow ok hg fun b e=>(r.own b e).1).sub⟩
theorem Pa.dats_app1 (l:List Pa) (x:Pa):Pa.dats (l++[x])=Pa.dats l++[x.dat]:=by
 induction l with
 | nil=>rfl
 | cons y r ih=>rw[List.cons_append,Pa.dats,Pa.dats,ih];rfl
def PsOk (ps:List Pa):Prop:=∀ i (h:i<ps.length),InR ps[i].tn
theorem PsOk.snoc {ps:List Pa}(h:PsOk ps) {p:Pa}(hp:InR p.tn):PsOk (ps++[p]):=fun i hi=>by
 by_cases q:i<ps.length
 ·rw[List.getElem_append_left q];exact h i q
 ·rw[List.getElem_append_right (by omega)];have:i - ps.length=0:=by simp at hi;omega
  simpa[this] using hp
structure Pf (c:Dx) (v:Gv) (g0:GS) (w0:World) (F R:Nat) (nm pv:Value) (rk rn:Int) (bv:Value) (ps:List Pa) (g:GS) (w:World):Prop where
 zx:Zx c v g0 w0 [(F,[nm,pv,.int .i64 rk,.int .i64 rn,bv]),(R,[.slice none 0 0,.slice none 0 0,.int .i64 0,.int .i64 0,.slice none 0 0])] g w
 nm:NmS (mask g w) nm
 rw:∃ xs,Rw g w (F+1) 69 3 pv (Pa.dats ps) xs
 ok:PsOk ps
 rr:InR rn
 ne:R<F
theorem Pf.call {c:Dx}{v v':Gv}{g0:GS}{w0:World}{F R:Nat}{nm pv:Value}{rk rn:Int}{bv:Value}{ps:List Pa}{g g':GS}{w w':World}(h:Pf c v g0 w0 F R nm pv rk rn bv ps g w) (s:Stp g w g' w') (k:Gs c g' w' v'):Pf c v' g0 w0 F R nm pv rk rn bv ps g' w':=by
 obtain⟨xs,r⟩:=h.rw;exact⟨h.zx.call s k,h.nm.sub (Ov.stp h.zx.ec.gs.ok s).sub,⟨xs,r.stp h.zx.ec.gs.ok s⟩,h.ok,h.rr,h.ne⟩
theorem Pf.later {c:Dx}{v:Gv}{g0:GS}{w0:World}{F R:Nat}{nm pv:Value}{rk rn:Int}{bv:Value}{ps:List Pa}{g:GS}{w w':World}(h:Pf c v g0 w0 F R nm pv rk rn bv ps g w) (l:Later w w'):Pf c v g0 w0 F R nm pv rk rn bv ps g w':=h.call ((Stp.refl g w).later l) (h.zx.ec.gs.later l)
theorem Pf.put {c:Dx}{v:Gv}{g0:GS}{w0:World}{F R:Nat}{nm pv:Value}{rk rn rk' rn':Int}{bv bv':Value}{ps:List Pa}{g:GS}{w w':World}(h:Pf c v g0 w0 F R nm pv rk rn bv ps g w) (o:OnlyK F w w') (hb:Bxx w' F [nm,pv,.int .i64 rk',.int .i64 rn',bv']) (hr:InR rn'):Pf c v g0 w0 F R nm pv rk' rn' bv' ps g w':=by
 obtain⟨xs,r⟩:=h.rw;have hne:=h.ne;exact⟨h.zx.put o hb (fun p q=>by rw[List.mem_singleton.1 q];show R≠F;omega),h.nm.sub (Ov.only h.zx.ec.gs.ok o h.zx.b0.s).sub,⟨xs,r.only h.zx.ec.gs.ok o h.zx.b0.s (fun e=>by have:=(r.row.lt F e).1;omega)⟩,h.ok,hr,h.ne⟩
theorem Pf.push {c:Dx}{v:Gv}{g0:GS}{w0:World}{F R:Nat}{nm pv pv':Value}{rk rn:Int}{bv:Value}{ps:List Pa}{xs:List Value}{g:GS}{w w2 w3:World}(h:Pf c v g0 w0 F R nm pv rk rn bv ps g w) (r:Rw g w (F+1) 69 3 pv (Pa.dats ps) xs) {u:Value}{tk tn:Int}(hu:NmS (mask g w) u) (ht:InR tn) (o:w2.ownsRow (F+1) 69 3 pv' (ps.length+1) (xs++[u,.int .i64 tk,.int .i64 tn])) (hg:w.grownBy w2 pv.ownBlock) (hloc:pv'.ownBlock=pv.ownBlock∨pv'.ownBlock=some w.heap.size) (h3:w3=w2.setCell ⟨F,1,none⟩ pv'):∃ ps',ps'.length=ps.length+1∧Pf c v g0 w0 F R nm pv' rk rn bv ps' g w3∧Sub (mask g w) (mask g w3):=by
 obtain⟨zs,rz⟩:=hu;have hF:=h.zx.b0.hi;have hne:=h.ne;have hw:=h.zx.b0.bx.lt;have h00:=(h.zx.bx _ (List.mem_cons_self ..)).2;obtain⟨x2,ov2⟩:=h.zx.grown r (by omega) (by omega) (fun p q=>by (simp at q;rcases q with rfl|rfl <;> (try simp) <;> omega)) hg;have r2:=r.push h.zx.ec.gs.ok (m:=[(Pa.mk zs tk tn).dat]) (ElS.one rfl (Pa.unview (x:=.mk zs tk tn) rz)) (by rw[Pa.dats_len];exact o) hg hloc;rw[←Pa.dats_app1]at r2;have o3:OnlyK F w2 w3:=by rw[h3];exact (OnlyK.refl _ _).set 1 _
 have ov3:=(Ov.only x2.ec.gs.ok o3 x2.b0.s).sub;refine⟨ps++[.mk zs tk tn],by simp,⟨x2.put o3 (by rw[h3];exact x2.b0.bx.set 1 _ (by simp)) (fun p q=>by rw[List.mem_singleton.1 q];show R≠F;omega),(h.nm.sub ov2).sub ov3,⟨_,r2.only x2.ec.gs.ok o3 x2.b0.s (fun e=>by have:=(r2.row.lt F e).1;omega)⟩,h.ok.snoc (p:=.mk zs tk tn) ht,h.rr,h.ne⟩,?_⟩;exact⟨Nat.le_trans ov2.size ov3.size,fun a u q=>ov3.cell a u (ov2.cell a u q)⟩
theorem Bxx.c5 {w:World}{B:Nat}{a b c d e:Value}(h:Bxx w B [a,b,c,d,e]):((w.cell? ⟨B,0,none⟩=some a∧w.frozen? ⟨B,0,none⟩=false)∧(w.cell? ⟨B,1,none⟩=some b∧w.frozen? ⟨B,1,none⟩=false)∧(w.cell? ⟨B,2,none⟩=some c∧w.frozen? ⟨B,2,none⟩=false)∧(w.cell? ⟨B,3,none⟩=some d∧w.frozen? ⟨B,3,none⟩=false)∧(w.cell? ⟨B,4,none⟩=some e∧w.frozen? ⟨B,4,none⟩=false))∧B<w.heap.size:=⟨⟨h.cell 0 _ rfl,h.cell 1 _ rfl,h.cell 2 _ rfl,h.cell 3 _ rfl,h.cell 4 _ rfl⟩,h.lt⟩
theorem Tryz.underlyingPs:Tryz.prog.underlying 63=some (.slice 69):=by kernel_rfl
theorem Tryz.infoPa:(Tryz.prog.info? 69).map (fun i=>(i.zero,i.size,i.bytes))=some (some (.agg #[.slice none 0 0,.int .i64 0,.int .i64 0]),3,40):=by kernel_rfl
def thenOf:Code→Code
 | .cond _ a _=>a
 | c=>c
noncomputable def fnA:Code:=thenOf (rt (lt (rt (rt (rt (rt (Tryz.f40.body.getD .skip)))))))
theorem fn_A {c:Dx}{v:Gv}{g g2:GS}{w w2:World}{F R:Nat}{nm:Value}(nv0 tv0 xv0:Value) (X2:Hid (Pf c { v with nv:=nv0,tv:=tv0,xv:=xv0,n:=0,rk:=0,rn:=0 } g w F R nm (.slice none 0 0) 0 0 (.slice none 0 0) [] g2 w2)) (Q:Ending→World→Prop) {J0 K0:Act→World→Prop}(y2 y3:Value) (hJ0:∀ us w',(∃ (g1:GS) (nv tv xv:Value) (rk rn:Int) (pv:Value) (ps:List Pa) (k:Nat),Pf c { v with nv:=nv,tv:=tv,xv:=xv,n:=k,rk:=rk,rn:=rn } g w F R nm pv rk rn (.slice none 0 0) ps g1 w'∧ps.length=k∧k≤3)→J0 { tmps:=([.pointer (some ⟨c.G,0,none⟩),nm,y2,y3,us 4,us 5,us 6,us 7,.pointer (some ⟨R,0,none⟩),.pointer (some ⟨F,0,none⟩)]++tl us 10 201).toArray,defers:=[] } w') (hK0:∀ a' w',Met J0 a' w'→K0 a' w') (us:Nat→Value):Code.wp Tryz.prog fnA (Exit.then K0 (bodyPost Tryz.prog Tryz.f40 Q)) { tmps:=([.pointer (some ⟨c.G,0,none⟩),nm,y2,y3,us 4,us 5,us 6,us 7,.pointer (some ⟨R,0,none⟩),.pointer (some ⟨F,0,none⟩)]++tl us 10 201).toArray,defers:=[] } w2:=by
 have _u3:=And.intro hJ0 hK0;clear _u3;obtain⟨i0,hi0,hz0,hz1,hz2⟩:=info_parts Tryz.infoPa;show Code.wp _ (Code.seq _ _) _ _ _;dsimp only [List.cons_append,List.nil_append,tl,Nat.reduceAdd];have cg:=X2.out.zx.g0;have HB:=zal X2.out.zx.ec.gs 4 (by decide) (by decide);go_wp2_with fail
 refine HB.mono ?_;rintro e w3 ⟨_,rfl,g3,s3,k3,z,rfl,z0,z1⟩;have X3:Hid (Pf c { v with nv:=nv0,tv:=tv0,xv:=xv0,n:=0,rk:=0,rn:=0 } g w F R nm (.slice none 0 0) 0 0 (.slice none 0 0) [] g3 w3):=X2.out.call s3 k3
 obtain⟨m,hm⟩:∃ m:Nat,z=(m:Int):=⟨z.toNat,by omega⟩
 subst hm;have hm3:m≤3:=by omega
 have hGF:c.G<F:=X3.out.zx.b0.hi;clear X2 HB s3 k3 cg z0 z1;go_wp2_with fail
 go_loopw [11] (fun i' wr=>∃ (k:Nat) (gk:GS) (nv tv xv pv:Value) (ps:List Pa),i'=.int .i64 (k:Int)∧k≤m∧ps.length=k∧Pf c { v with nv:=nv,tv:=tv,xv:=xv,n:=k,rk:=0,rn:=0 } g w F R nm pv 0 0 (.slice none 0 0) ps gk wr) (fun i' _=>m - (intOf i').toNat)
 case atStart=>exact⟨0,g3,nv0,tv0,xv0,_,[],rfl,Nat.zero_le _,rfl,X3.out⟩
 case round =>
  clear X3;obtain⟨k,gk,nv,tv,xv,pv,ps,rfl,hk,hps,p0⟩:=hrel;have HPs:Hid _:=hps;clear hps;by_cases hlt:k<m
  ·have i1:(k:Int)<(m:Int):=by omega
   have HFr:=zcx p0.zx.ec.gs 112 (by unfold isB;omega);have P0:Hid (Pf c { v with nv:=nv,tv:=tv,xv:=xv,n:=k,rk:=0,rn:=0 } g w F R nm pv 0 0 (.slice none 0 0) ps gk wr):=p0;clear p0;go_wp2_with fail
   refine HFr.mono ?_;rintro e wa ⟨_,rfl,ga,sa,ka,hnm⟩;obtain⟨a0,n0,c0,rfl⟩:=hnm.slice;have HA:=zda (P0.out.call sa ka).zx.ec.gs
   have Pa_:Hid (Pf c { v with nv:=nv,tv:=tv,xv:=xv,n:=k,rk:=0,rn:=0 } g w F R nm pv 0 0 (.slice none 0 0) ps ga wa∧NmS (mask ga wa) (.slice a0 n0 c0)):=⟨P0.out.call sa ka,hnm⟩
   clear HFr P0 sa ka hnm;go_wp2_with fail
   refine HA.mono ?_;rintro e wb ⟨_,rfl,gb,sb,kb,tk,tn,rfl,ht⟩;obtain⟨pa,hna⟩:=Pa_.out;have pb:=pa.call sb kb;have hnb:=hna.sub (Ov.stp pa.zx.ec.gs.ok sb).sub;obtain⟨xs,rb⟩:=pb.rw;have rowb:=rb.row;rw[Pa.dats_len]at rowb;obtain⟨va,vc,hva⟩:=zac rowb;subst hva;have hPl:=rb.row.lt;have lx:=(later1 wb (.cells #[.slice a0 n0 c0,.int .i64 tk,.int .i64 tn] 69)).trans (later1 _ (.cells #[.slice a0 n0 c0,.int .i64 tk,.int .i64 tn] 69));have pl:=pb.later lx;have hnl:=hnb.sub (Ov.later pb.zx.ec.gs.ok lx).sub;have rl:=rb.later pb.zx.ec.gs.ok lx;have bP:Bxx ((wb.alloc (.cells #[.slice a0 n0 c0,.int .i64 tk,.int .i64 tn] 69)).alloc (.cells #[.slice a0 n0 c0,.int .i64 tk,.int .i64 tn] 69)) wb.heap.size [.slice a0 n0 c0,.int .i64 tk,.int .i64 tn]:=(Bxx.new wb #[.slice a0 n0 c0,.int .i64 tk,.int .i64 tn] 69).later (later1 _ _);have hFb:=pb.zx.lt0;have hneR:=pb.ne
   have HPu:Hid (∀ w9 v9,w9.ownsRow (F+1) 69 3 v9 (ps.length+1) (xs++[.slice a0 n0 c0,.int .i64 tk,.int .i64 tn])→((wb.alloc (.cells #[.slice a0 n0 c0,.int .i64 tk,.int .i64 tn] 69)).alloc (.cells #[.slice a0 n0 c0,.int .i64 tk,.int .i64 tn] 69)).grownBy w9 (Value.ownBlock (.slice va ps.length vc))→(v9.ownBlock=Value.ownBlock (.slice va ps.length vc)∨v9.ownBlock=some ((wb.alloc (.cells #[.slice a0 n0 c0,.int .i64 tk,.int .i64 tn] 69)).alloc (.cells #[.slice a0 n0 c0,.int .i64 tk,.int .i64 tn] 69)).heap.size)→(∃ ps',ps'.length=ps.length+1∧Pf c { v with nv:=nv,tv:=tv,xv:=xv,n:=k,rk:=0,rn:=0 } g w F R nm v9 0 0 (.slice none 0 0) ps' gb (w9.setCell ⟨F,1,none⟩ v9)∧NmS (mask gb (w9.setCell ⟨F,1,none⟩ v9)) (.slice a0 n0 c0))∧Bxx w9 F [nm,.slice va ps.length vc,.int .i64 0,.int .i64 0,.slice none 0 0]∧Bxx (w9.setCell ⟨F,1,none⟩ v9) wb.heap.size [.slice a0 n0 c0,.int .i64 tk,.int .i64 tn]):=fun w9 v9 o9 g9 h9=>by
    obtain⟨ps',e1,p9,ov9⟩:=pl.push rl hnl ht o9 g9 h9 rfl;have hb9:=(pl.zx.grown rl (Nat.le_trans (pl.zx.bx _ (List.mem_cons_self ..)).2 (Nat.le_succ _)) (by omega) (fun p q=>by (simp at q;rcases q with rfl|rfl <;> (try simp) <;> omega)) g9).1.b0.bx;refine⟨⟨ps',e1,p9,hnl.sub ov9⟩,hb9,?_⟩;have hk9:Bxx w9 wb.heap.size [.slice a0 n0 c0,.int .i64 tk,.int .i64 tn]:=bP.kept g9.size (g9.block _ bP.lt (fun e=>by have:=(hPl _ e.symm).2;omega));exact hk9.only ((OnlyK.refl F w9).set 1 v9) (by omega)
   obtain⟨⟨⟨qa0,f0⟩,⟨qa1,f1⟩,⟨qa2,f2⟩,⟨qa3,f3⟩,⟨qa4,f4⟩⟩,qal⟩:=pb.zx.b0.bx.c5;clear Pa_ pa hna sb kb rb pl rl hnl hnb bP HA pb hPl;go_wp2_with (at_builtin;refine wpList_append_own_at _ rfl _ _ 63 rfl (F+1) 69 i0 (.agg #[.slice none 0 0,.int .i64 0,.int .i64 0]) 3 40 Tryz.underlyingPs hi0 hz0 hz1 hz2 rfl (by decide) _ _ _ rfl ((rowb.alloc _).alloc _) _ 1 1 [.slice a0 n0 c0,.int .i64 tk,.int .i64 tn] rfl rfl (zao _ _ _ (by simp)) (by simp[Value.oneCell']) (by have:=HPs.out;unfold maxLen;omega) (by have:=HPs.out;omega) (Nat.le_trans hFb lx.size) ?_;intro v9 w9 o9 g9 _ h9;obtain⟨⟨ps',e9',p9,hn9⟩,hb9,bP9⟩:=HPu.out w9 v9 o9 g9 h9;have e9:Hid (ps'.length=k+1):=(by rw[e9',HPs.out];exact rfl);clear e9';obtain⟨va9,vc9,hv9⟩:=zac o9;subst hv9;obtain⟨⟨⟨qb0,j0⟩,⟨qb1,j1⟩,⟨qb2,j2⟩,⟨qb3,j3⟩,⟨qb4,j4⟩⟩,qbl⟩:=hb9.c5;obtain⟨bp0,_⟩:=bP9.cell 0 _ rfl;obtain⟨bp1,_⟩:=bP9.cell 1 _ rfl;obtain⟨bp2,_⟩:=bP9.cell 2 _ rfl;have HWi:=zdr p9.zx.ec.gs a0 n0 c0 hn9 tk tn ht false (by show k<_;omega);have P9:Hid _:=p9;clear p9 hn9 hb9 bP9 HPu)
   refine HWi.mono ?_;rintro e wc ⟨_,rfl,rfl,gc,nvc,tvc,xvc,sc,kc⟩;have pc:=P9.out.call sc kc;clear P9 HWi sc kc;go_wp2_with fail
   go_roundw
   case rel=>exact⟨k+1,gc,nvc,tvc,xvc,_,ps',by simp,by omega,e9.out,pc⟩
   case measure=>simp[intOf];omega
  ·have i1:¬ (k:Int)<(m:Int):=by omega
   have i2:decide ((k:Int)<(m:Int))=false:=decide_eq_false i1;have cg:=p0.zx.g0;have HO:=zce p0.zx.ec.gs 4 (by decide) (by decide);have P0:Hid (Pf c { v with nv:=nv,tv:=tv,xv:=xv,n:=k,rk:=0,rn:=0 } g w F R nm pv 0 0 (.slice none 0 0) ps gk wr):=p0;clear p0;go_wp2_with fail
   refine HO.mono ?_;rintro e wa ⟨_,rfl,ga,sa,ka,b,rfl⟩;have pa:=P0.out.call sa ka;have Pa_:Hid (Pf c { v with nv:=nv,tv:=tv,xv:=xv,n:=k,rk:=0,rn:=0 } g w F R nm pv 0 0 (.slice none 0 0) ps ga wa):=pa;clear P0 HO sa ka cg;have HAn:=zda pa.zx.ec.gs;have hneR:=pa.ne
   have HE:Hid (∀ (tk tn:Int) g' w' w5 w6,InR tn→Pf c { v with nv:=nv,tv:=tv,xv:=xv,n:=k,rk:=0,rn:=0 } g w F R nm pv 0 0 (.slice none 0 0) ps g' w'→w5=(w'.setCell ⟨F,2,none⟩ (.int .i64 tk)).setCell ⟨F,3,none⟩ (.int .i64 tn)→w6=(w5.setCell ⟨c.G,8,none⟩ (.int .i64 tk)).setCell ⟨c.G,9,none⟩ (.int .i64 tn)→(∃ (g1:GS) (nv tv xv:Value) (rk rn:Int) (pv:Value) (ps:List Pa) (k:Nat),Pf c { v with nv:=nv,tv:=tv,xv:=xv,n:=k,rk:=rk,rn:=rn } g w F R nm pv rk rn (.slice none 0 0) ps g1 w6∧ps.length=k∧k≤3)):=fun tk tn g' w' w5 w6 ht p h5 h6=>by
    have p5:=p.put (w':=w5) (rk':=tk) (rn':=tn) (bv':=.slice none 0 0) (by rw[h5];exact ((OnlyK.refl F w').set 2 _).set 3 _) (by rw[h5];exact (p.zx.b0.bx.set 2 (.int .i64 tk) (by simp)).set 3 (.int .i64 tn) (by simp)) ht;obtain⟨k6,s6⟩:=p5.zx.ec.gs.res tk tn ht h6;exact⟨g',nv,tv,xv,tk,tn,pv,ps,k,p5.call s6 k6,HPs.out,by omega⟩
   have HE0:Hid (∀ g' w' w6,Pf c { v with nv:=nv,tv:=tv,xv:=xv,n:=k,rk:=0,rn:=0 } g w F R nm pv 0 0 (.slice none 0 0) ps g' w'→w6=(w'.setCell ⟨c.G,8,none⟩ (.int .i64 0)).setCell ⟨c.G,9,none⟩ (.int .i64 0)→(∃ (g1:GS) (nv tv xv:Value) (rk rn:Int) (pv:Value) (ps:List Pa) (k:Nat),Pf c { v with nv:=nv,tv:=tv,xv:=xv,n:=k,rk:=rk,rn:=rn } g w F R nm pv rk rn (.slice none 0 0) ps g1 w6∧ps.length=k∧k≤3)):=fun g' w' w6 p h6=>by
    obtain⟨k6,s6⟩:=p.zx.ec.gs.res 0 0 (by unfold InR;omega) h6;exact⟨g',nv,tv,xv,0,0,pv,ps,k,p.call s6 k6,HPs.out,by omega⟩
   have HG:Hid (∀ g' w',Pf c { v with nv:=nv,tv:=tv,xv:=xv,n:=k,rk:=0,rn:=0 } g w F R nm pv 0 0 (.slice none 0 0) ps g' w'→(w'.cell? ⟨c.G,8,none⟩=some (.int .i64 0)∧w'.frozen? ⟨c.G,8,none⟩=false)∧(w'.cell? ⟨c.G,9,none⟩=some (.int .i64 0)∧w'.frozen? ⟨c.G,9,none⟩=false)∧c.G<w'.heap.size):=fun g' w' p=>by
    obtain⟨nx,lf,hb⟩:=p.zx.ec.gs.box;exact⟨hb.cell 8 _ rfl,hb.cell 9 _ rfl,hb.lt⟩
   clear pa
   cases b with
   | true =>
    obtain⟨⟨⟨qa0,f0⟩,⟨qa1,f1⟩,⟨qa2,f2⟩,⟨qa3,f3⟩,⟨qa4,f4⟩⟩,qal⟩:=Pa_.out.zx.b0.bx.c5;obtain⟨⟨gb0,gf0⟩,⟨gb1,gf1⟩,gbl⟩:=HG.out _ _ Pa_.out;have hm:=HE0.out _ _ _ Pa_.out rfl;clear HE HE0 HG Pa_ HAn;have HM:Hid _:=hm;clear hm;go_wp2_with fail
    exact meetG hJ0 rfl HM.out
   | false =>
    go_wp2_with fail
    refine HAn.mono ?_;rintro e wb ⟨_,rfl,gb,sb,kb,tk,tn,rfl,ht⟩;have pb:=Pa_.out.call sb kb;obtain⟨⟨⟨qa0,f0⟩,⟨qa1,f1⟩,⟨qa2,f2⟩,⟨qa3,f3⟩,⟨qa4,f4⟩⟩,qal⟩:=pb.zx.b0.bx.c5;obtain⟨⟨gb0,gf0⟩,⟨gb1,gf1⟩,gbl⟩:=HG.out _ _ pb;have hm:=HE.out tk tn _ _ _ _ ht pb rfl rfl;clear HE HE0 HG Pa_ HAn pb sb kb;have HM:Hid _:=hm;clear hm;go_wp2_with fail
    exact meetG hJ0 rfl HM.out
noncomputable def fnB:Code:=thenOf (rt (lt (rt (rt (rt (rt (rt (rt (Tryz.f40.body.getD .skip)))))))))
noncomputable def fnB2:Code:=rt (rt (rt (rt (rt fnB))))
theorem Pf.paAt {c:Dx}{v:Gv}{g0:GS}{w0:World}{F R:Nat}{nm:Value}{rk rn:Int}{bv:Value}{ps:List Pa}{g:GS}{w:World}{va:Option Addr}{N vc:Nat}(h:Pf c v g0 w0 F R nm (.slice va N vc) rk rn bv ps g w) (i:Nat) (hi:i<ps.length):∃ b a0 n0 c0,va=some ⟨b,0,none⟩∧b<w.heap.size∧w.cell? ⟨b,i*3,none⟩=some (.slice a0 n0 c0)∧w.cell? ⟨b,i*3+1,none⟩=some (.int .i64 ps[i].tk)∧w.cell? ⟨b,i*3+2,none⟩=some (.int .i64 ps[i].tn)∧NmS (mask g w) (.slice a0 n0 c0):=by
 obtain⟨xs,r⟩:=h.rw;have o:=r.row;rw[Pa.dats_len]at o;rcases o.2 with ⟨_,e⟩|⟨b,p,cur,e,_⟩
 ·omega
 ·have ho:=o;rw[e]at ho;obtain⟨cs,hk,hc,hd⟩:=ElS.at _ r.el i (by rw[Pa.dats_len];exact hi);rw[Pa.dats_at ps i hi]at hd;obtain⟨v0,rfl,r0⟩:=Pa.view hd;obtain⟨a0,c0,rfl,_⟩:=r0.slice
  cases e
  have hl:∀ m u,([.slice a0 ps[i].name.length c0,.int .i64 ps[i].tk,.int .i64 ps[i].tn]:List Value)[m]?=some u→w.cell? ⟨b,i*3+m,none⟩=some u:=fun m u q=>by
   have hx:=hc m u q;have:=(List.getElem?_eq_some_iff.1 hx).1;rw[ho.cellAt _ (by rw[←o.1];exact this)];exact hx
  exact⟨b,a0,_,c0,rfl,(ho.lt b rfl).2,hl 0 _ rfl,hl 1 _ rfl,hl 2 _ rfl,_,r0⟩
theorem en_with:Enters Tryz.prog 59:=zai Tryz.func59 (by kernel_rfl) (by kernel_rfl)
theorem fn_B {c:Dx}{v:Gv}{g g2:GS}{w w2:World}{F R:Nat}{nm pv0 nv0 tv0 xv0:Value}{rk rn:Int}{ps0:List Pa}{k0:Nat}(X2:Hid (Pf c { v with nv:=nv0,tv:=tv0,xv:=xv0,n:=k0,rk:=rk,rn:=rn } g w F R nm pv0 rk rn (.slice none 0 0) ps0 g2 w2)) (hps:ps0.length≤3) (Q:Ending→World→Prop) {K0:Act→World→Prop}(y2 y3:Value) (HB2:∀ (P:Nat) (a0:Option Addr) (n0 c0:Nat) us w',(∃ (g1:GS) (nv tv xv pv:Value) (ps:List Pa),Pf c { v with nv:=nv,tv:=tv,xv:=xv,n:=ps.length,rk:=rk,rn:=rn } g w F R nm pv rk rn (.slice none 0 0) ps g1 w'∧1≤ps.length∧ps.length≤4∧Lb c g1 w' P [.slice a0 n0 c0,.int .i64 1,.int .i64 0]∧F<P∧NmS (mask g1 w') (.slice a0 n0 c0))→Code.wp Tryz.prog fnB2 (Exit.then K0 (bodyPost Tryz.prog Tryz.f40 Q)) { tmps:=([.pointer (some ⟨c.G,0,none⟩),nm,y2,y3,us 4,us 5,us 6,us 7,.pointer (some ⟨R,0,none⟩),.pointer (some ⟨F,0,none⟩),us 10,us 11,us 12,us 13,.pointer (some ⟨P,0,none⟩)]++tl us 15 196).toArray,defers:=[] } w') (us:Nat→Value):Code.wp Tryz.prog fnB (Exit.then K0 (bodyPost Tryz.prog Tryz.f40 Q)) { tmps:=([.pointer (some ⟨c.G,0,none⟩),nm,y2,y3,us 4,us 5,us 6,us 7,.pointer (some ⟨R,0,none⟩),.pointer (some ⟨F,0,none⟩)]++tl us 10 201).toArray,defers:=[] } w2:=by
 obtain⟨i0,hi0,hz0,hz1,hz2⟩:=info_parts Tryz.infoPa;show Code.wp _ (Code.seq _ _) _ _ _;dsimp only [List.cons_append,List.nil_append,tl,Nat.reduceAdd];have HFr:=zcx X2.out.zx.ec.gs 100 (by unfold isB;omega);have hGF:c.G<F:=X2.out.zx.b0.hi;go_wp2_with fail
 refine HFr.mono ?_;rintro e wb ⟨_,rfl,gb,sb,kb,hnm⟩;obtain⟨a0,n0,c0,rfl⟩:=hnm.slice;have pb:=X2.out.call sb kb;obtain⟨xs,rb⟩:=pb.rw;have rowb:=rb.row;rw[Pa.dats_len]at rowb;obtain⟨va,vc,hva⟩:=zac rowb;subst hva;have hPl:=rb.row.lt;have lx:=(later1 wb (.cells #[.slice a0 n0 c0,.int .i64 1,.int .i64 0] 69)).trans (later1 _ (.cells #[.slice a0 n0 c0,.int .i64 1,.int .i64 0] 69));have pl:=pb.later lx;have hnl:=hnm.sub (Ov.later pb.zx.ec.gs.ok lx).sub;have rl:=rb.later pb.zx.ec.gs.ok lx;have bP:Lb c gb ((wb.alloc (.cells #[.slice a0 n0 c0,.int .i64 1,.int .i64 0] 69)).alloc (.cells #[.slice a0 n0 c0,.int .i64 1,.int .i64 0] 69)) wb.heap.size [.slice a0 n0 c0,.int .i64 1,.int .i64 0]:=(Lb.new pb.zx.ec.gs [.slice a0 n0 c0,.int .i64 1,.int .i64 0] 69).later (later1 _ _);have hFb:=pb.zx.lt0;have hneR:=pb.ne
 have HPu:Hid (∀ w9 v9,w9.ownsRow (F+1) 69 3 v9 (ps0.length+1) (xs++[.slice a0 n0 c0,.int .i64 1,.int .i64 0])→((wb.alloc (.cells #[.slice a0 n0 c0,.int .i64 1,.int .i64 0] 69)).alloc (.cells #[.slice a0 n0 c0,.int .i64 1,.int .i64 0] 69)).grownBy w9 (Value.ownBlock (.slice va ps0.length vc))→(v9.ownBlock=Value.ownBlock (.slice va ps0.length vc)∨v9.ownBlock=some ((wb.alloc (.cells #[.slice a0 n0 c0,.int .i64 1,.int .i64 0] 69)).alloc (.cells #[.slice a0 n0 c0,.int .i64 1,.int .i64 0] 69)).heap.size)→(∃ ps',ps'.length=ps0.length+1∧Pf c { v with nv:=nv0,tv:=tv0,xv:=xv0,n:=k0,rk:=rk,rn:=rn } g w F R nm v9 rk rn (.slice none 0 0) ps' gb (w9.setCell ⟨F,1,none⟩ v9)∧NmS (mask gb (w9.setCell ⟨F,1,none⟩ v9)) (.slice a0 n0 c0))∧Bxx w9 F [nm,.slice va ps0.length vc,.int .i64 rk,.int .i64 rn,.slice none 0 0]∧Lb c gb (w9.setCell ⟨F,1,none⟩ v9) wb.heap.size [.slice a0 n0 c0,.int .i64 1,.int .i64 0]):=fun w9 v9 o9 g9 h9=>by
  obtain⟨ps',e1,p9,ov9⟩:=pl.push rl hnl (by unfold InR;omega) o9 g9 h9 rfl;have hb9:=(pl.zx.grown rl (Nat.le_trans (pl.zx.bx _ (List.mem_cons_self ..)).2 (Nat.le_succ _)) (by omega) (fun p q=>by (simp at q;rcases q with rfl|rfl <;> (try simp) <;> omega)) g9).1.b0.bx;have hk9:Bxx w9 wb.heap.size [.slice a0 n0 c0,.int .i64 1,.int .i64 0]:=bP.bx.kept g9.size (g9.block _ bP.bx.lt (fun e=>by have:=(hPl _ e.symm).2;omega));exact⟨⟨ps',e1,p9,hnl.sub ov9⟩,hb9,hk9.only ((OnlyK.refl F w9).set 1 v9) (by omega),bP.s,bP.d,bP.hi⟩
 obtain⟨⟨⟨qa0,f0⟩,⟨qa1,f1⟩,⟨qa2,f2⟩,⟨qa3,f3⟩,⟨qa4,f4⟩⟩,qal⟩:=pb.zx.b0.bx.c5;have i4:((ps0.length:Int)==4)=false:=by simp;omega
 have hbl:F<wb.heap.size:=hFb;clear X2 sb kb rb pl rl hnl hnm bP pb hPl HFr;go_wp2_with (at_builtin;refine wpList_append_own_at _ rfl _ _ 63 rfl (F+1) 69 i0 (.agg #[.slice none 0 0,.int .i64 0,.int .i64 0]) 3 40 Tryz.underlyingPs hi0 hz0 hz1 hz2 rfl (by decide) _ _ _ rfl ((rowb.alloc _).alloc _) _ 1 1 [.slice a0 n0 c0,.int .i64 1,.int .i64 0] rfl rfl (zao _ _ _ (by simp)) (by simp[Value.oneCell']) (by unfold maxLen;omega) (by omega) (Nat.le_trans hFb lx.size) ?_;intro v9 w9 o9 g9 _ h9;obtain⟨⟨ps,e9',p9,hn9⟩,hb9,bP9⟩:=HPu.out w9 v9 o9 g9 h9;have e9:Hid _:=e9';clear e9';obtain⟨va9,vc9,hv9⟩:=zac o9;subst hv9;obtain⟨⟨⟨qb0,j0⟩,⟨qb1,j1⟩,⟨qb2,j2⟩,⟨qb3,j3⟩,⟨qb4,j4⟩⟩,qbl⟩:=hb9.c5;have P9:Hid _:=And.intro p9 (And.intro hn9 bP9);clear p9 hn9 hb9 bP9 HPu)
 have HU:=until_any P9.out.1.zx.ec.gs 0 (Nat.zero_le _);have hFP:F<wb.heap.size:=hFb
 generalize wb.heap.size=P at *
 obtain⟨w10,hw10⟩:=hidx (w9.setCell ⟨F,1,none⟩ (.slice va9 (ps0.length+1) vc9));rw[←hw10.out]at P9 HU ⊢;clear hw10 qb0 j0 qb1 j1 qb2 j2 qb3 j3 qb4 j4 qbl qa0 f0 qa1 f1 qa2 f2 qa3 f3 qa4 f4 qal rowb g9 h9 o9;refine HU.mono ?_;rintro e w11 ⟨_,rfl,rfl,g11,nv,tv,xv,s11,k11⟩
 have X11:Hid (Pf c { v with nv:=nv,tv:=tv,xv:=xv,n:=0,rk:=rk,rn:=rn } g w F R nm (.slice va9 (ps0.length+1) vc9) rk rn (.slice none 0 0) ps g11 w11∧NmS (mask g11 w11) (.slice a0 n0 c0)∧Lb c g11 w11 P [.slice a0 n0 c0,.int .i64 1,.int .i64 0]):=⟨P9.out.1.call s11 k11,P9.out.2.1.sub (Ov.stp P9.out.1.zx.ec.gs.ok s11).sub,P9.out.2.2.stp s11⟩
 clear P9 HU s11 k11;have hN4:ps0.length+1≤4:=by omega
 have hN1:1≤ps0.length+1:=by omega
 clear hps i4
 generalize ps0.length+1=N at *
 go_upto_block 2 with fail
 refine zdc (fun us=>([.pointer (some ⟨c.G,0,none⟩),nm,y2,y3,us 4,us 5,us 6,us 7,.pointer (some ⟨R,0,none⟩),.pointer (some ⟨F,0,none⟩),us 10,us 11,us 12,us 13,.pointer (some ⟨P,0,none⟩)]++tl us 15 196)) (fun w'=>(∃ (g1:GS) (nv tv xv pv:Value) (ps:List Pa),Pf c { v with nv:=nv,tv:=tv,xv:=xv,n:=ps.length,rk:=rk,rn:=rn } g w F R nm pv rk rn (.slice none 0 0) ps g1 w'∧1≤ps.length∧ps.length≤4∧Lb c g1 w' P [.slice a0 n0 c0,.int .i64 1,.int .i64 0]∧F<P∧NmS (mask g1 w') (.slice a0 n0 c0))) ?rest ?first
 case rest =>
  intro us1 w5 hcut;go_step
  exact HB2 P a0 n0 c0 us1 w5 hcut
 case first =>
  intro J0 K1 hJ0 hK1;clear HB2;go_wp2_with fail
  go_loopw [15] (fun i' wr=>∃ (i:Nat) (gk:GS) (nv tv xv:Value),i'=.int .i64 (i:Int)∧i≤N∧Pf c { v with nv:=nv,tv:=tv,xv:=xv,n:=i,rk:=rk,rn:=rn } g w F R nm (.slice va9 N vc9) rk rn (.slice none 0 0) ps gk wr∧NmS (mask gk wr) (.slice a0 n0 c0)∧Lb c gk wr P [.slice a0 n0 c0,.int .i64 1,.int .i64 0]) (fun i' _=>N - (intOf i').toNat)
  case atStart=>exact⟨0,g11,nv,tv,xv,rfl,Nat.zero_le _,X11.out.1,X11.out.2.1,X11.out.2.2⟩
  case round =>
   clear X11;obtain⟨i,gk,nv,tv,xv,rfl,hi,p0,hn0,bP0⟩:=hrel;obtain⟨⟨⟨qa0,f0⟩,⟨qa1,f1⟩,⟨qa2,f2⟩,⟨qa3,f3⟩,⟨qa4,f4⟩⟩,qal⟩:=p0.zx.b0.bx.c5;by_cases hlt:i<N
   ·have i1:(i:Int)<(N:Int):=by omega
    obtain⟨b,u0,m0,q0,e3,hbl,z0,z1,z2,hnu⟩:=p0.paAt i (by rw[e9.out];exact hlt);have htn:=p0.ok i (by rw[e9.out];exact hlt);subst e3
    have HX:Hid (Pf c { v with nv:=nv,tv:=tv,xv:=xv,n:=i,rk:=rk,rn:=rn } g w F R nm (.slice (some ⟨b,0,none⟩) N vc9) rk rn (.slice none 0 0) ps gk wr∧NmS (mask gk wr) (.slice a0 n0 c0)∧Lb c gk wr P [.slice a0 n0 c0,.int .i64 1,.int .i64 0]):=⟨p0,hn0,bP0⟩
    have HS0:Hid (∀ g' w',Ov gk wr g' w'→(∀ (k:Nat) (u:Value),k<3→wr.cell? ⟨b,i*3+k,none⟩=some u→w'.cell? ⟨b,i*3+k,none⟩=some u)→True):=fun _ _ _ _=>trivial
    have HPA:Hid (∀ g' w' nv tv xv (n:Nat),Stp gk wr g' w'→Pf c { v with nv:=nv,tv:=tv,xv:=xv,n:=n,rk:=rk,rn:=rn } g w F R nm (.slice (some ⟨b,0,none⟩) N vc9) rk rn (.slice none 0 0) ps g' w'→w'.heap[b]?=wr.heap[b]?):=fun g' w' nv tv xv n s p=>by
     obtain⟨xs,r⟩:=p0.rw;exact s.block b hbl (r.own b rfl).2
    have hi2:i<ps.length:=by rw[e9.out];exact hlt
    generalize ps[i].tk=tk at *
    generalize ps[i].tn=tn at *
    have HWi:Hid (∀ (t:Bool) w',Later wr w'→Calls Tryz.prog 59 #[.pointer (some ⟨c.G,0,none⟩),.slice u0 m0 q0,.agg #[.int .i64 tk,.int .i64 tn],.bool t] w' fun e w2=>∃ u,e=.returned u∧(u=.tuple #[]∧Now c { v with nv:=nv,tv:=tv,xv:=xv,n:=i,rk:=rk,rn:=rn } gk w' (i+1) w2)):=fun t w' q=>zdr (p0.later q).zx.ec.gs u0 m0 q0 (hnu.sub (Ov.later p0.zx.ec.gs.ok q).sub) tk tn htn t (by show i<_;omega)
    have kd:Hid (wr.drew.cell? ⟨F,1,none⟩=some (.slice (some ⟨b,0,none⟩) N vc9)∧wr.drew.cell? ⟨b,i*3,none⟩=some (.slice u0 m0 q0)∧wr.drew.cell? ⟨b,i*3+1,none⟩=some (.int .i64 tk)∧wr.drew.cell? ⟨b,i*3+2,none⟩=some (.int .i64 tn)):=⟨qa1,z0,z1,z2⟩
    clear p0 hn0 bP0 hnu htn HS0;go_upto_region 25 with fail
    go_region_held3 (fun w'=>w'.cell? ⟨F,1,none⟩=some (.slice (some ⟨b,0,none⟩) N vc9)∧w'.cell? ⟨b,i*3,none⟩=some (.slice u0 m0 q0)∧w'.cell? ⟨b,i*3+1,none⟩=some (.int .i64 tk)∧w'.cell? ⟨b,i*3+2,none⟩=some (.int .i64 tn)) (first|with_reducible exact kd.out|with_reducible exact kw.out) ((refine zaa rfl 59 en_with _ _ rfl [.pointer (some ⟨c.G,0,none⟩),.slice u0 m0 q0,.agg #[.int .i64 tk,.int .i64 tn],.bool _] rfl _ (HWi.out _ _ (Later.drew _)) ?_;rintro u6 w6 ⟨rfl,g6,nv6,tv6,xv6,s6,k6⟩;have s6':=((Stp.refl gk wr).later (Later.drew wr)).trans s6;have p6:=HX.out.1.call s6' k6;have hn6:=HX.out.2.1.sub (Ov.stp HX.out.1.zx.ec.gs.ok s6').sub;have bP6:=HX.out.2.2.stp s6';have hb6:=HPA.out _ _ _ _ _ _ s6' p6;have kw:Hid (w6.cell? ⟨F,1,none⟩=some (.slice (some ⟨b,0,none⟩) N vc9)∧w6.cell? ⟨b,i*3,none⟩=some (.slice u0 m0 q0)∧w6.cell? ⟨b,i*3+1,none⟩=some (.int .i64 tk)∧w6.cell? ⟨b,i*3+2,none⟩=some (.int .i64 tn)):=⟨(p6.zx.b0.bx.cell 1 _ rfl).1,(World.cell?_of_block hb6).trans z0,(World.cell?_of_block hb6).trans z1,(World.cell?_of_block hb6).trans z2⟩))
    have HM:Hid (∃ (i':Nat) (gk:GS) (nv tv xv:Value),Value.int .i64 ((i:Int)+1)=.int .i64 (i':Int)∧i'≤N∧Pf c { v with nv:=nv,tv:=tv,xv:=xv,n:=i',rk:=rk,rn:=rn } g w F R nm (.slice (some ⟨b,0,none⟩) N vc9) rk rn (.slice none 0 0) ps gk w6∧NmS (mask gk w6) (.slice a0 n0 c0)∧Lb c gk w6 P [.slice a0 n0 c0,.int .i64 1,.int .i64 0]):=⟨i+1,g6,nv6,tv6,xv6,by simp,by omega,p6,hn6,bP6⟩
    clear p6 hn6 bP6 s6 s6' k6 HX HWi HPA kd kw hb6;go_wp2_with fail
    go_roundw
    case rel=>exact HM.out
    case measure=>simp[intOf];omega
   ·have i1:¬ (i:Int)<(N:Int):=by omega
    have i2:decide ((i:Int)<(N:Int))=false:=decide_eq_false i1;have hiN:i=ps.length:=by rw[e9.out];omega
    subst hiN
    have HM:Hid (∃ (g1:GS) (nv tv xv pv:Value) (ps:List Pa),Pf c { v with nv:=nv,tv:=tv,xv:=xv,n:=ps.length,rk:=rk,rn:=rn } g w F R nm pv rk rn (.slice none 0 0) ps g1 wr∧1≤ps.length∧ps.length≤4∧Lb c g1 wr P [.slice a0 n0 c0,.int .i64 1,.int .i64 0]∧F<P∧NmS (mask g1 wr) (.slice a0 n0 c0)):=⟨gk,nv,tv,xv,_,ps,p0,by rw[e9.out];exact hN1,by rw[e9.out];exact hN4,bP0,hFP,hn0⟩
    clear p0 hn0 bP0;go_wp2_with fail
    exact meetG hJ0 rfl HM.out
end Go.Proofs.YtgholpilmdebmaaGreatDoor
