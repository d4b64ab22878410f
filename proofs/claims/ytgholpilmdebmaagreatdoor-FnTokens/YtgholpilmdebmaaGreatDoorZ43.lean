import Derived.Test.YtgholpilmdebmaaGreatDoorZ40
import Derived.Test.YtgholpilmdebmaaGreatDoorZ38
import Derived.Test.YtgholpilmdebmaaGreatDoorZ23
import Derived.Test.YtgholpilmdebmaaGreatDoorZ04
import Derived.Test.YtgholpilmdebmaaGreatDoorZ41
import Derived.Test.YtgholpilmdebmaaGreatDoorZ28
set_option maxHeartbeats 100000000
set_option maxRecDepth 100000
namespace Go.Proofs.YtgholpilmdebmaaGreatDoor
open Go.RowKit Go.Maps
def Clo (md:Region.Mode) (ops:Array Oper) (l:Array Bool):Prop:=∀ i,l.getD i false=true→((ops[i]?).map (·.after.all fun e=>!Region.binds md e||l.getD e.on false)).getD false=true
theorem set_mono {l:Array Bool}{i:Nat}(hi:i<l.size) (j:Nat) (h:l.getD j false=true):(l.setIfInBounds i true).getD j false=true:=by
 rw[Array.getD_eq_getD_getElem?,Array.getElem?_setIfInBounds];rw[Array.getD_eq_getD_getElem?]at h;by_cases e:i=j
 ·subst e;simp[hi]
 ·rw[if_neg e];exact h
theorem zco {l:Array Bool}{i:Nat}(hi:i<l.size) (j:Nat):(l.setIfInBounds i true).getD j false=if j=i then true else l.getD j false:=by
 rw[Array.getD_eq_getD_getElem?,Array.getD_eq_getD_getElem?,Array.getElem?_setIfInBounds];by_cases e:j=i
 ·subst e;simp[hi]
 ·rw[if_neg (fun q=>e q.symm),if_neg e]
theorem dep_mono {md:Region.Mode}{ops:Array Oper}{l l':Array Bool}(h:∀ j,l.getD j false=true→l'.getD j false=true) {i:Nat}(q:((ops[i]?).map (·.after.all fun e=>!Region.binds md e||l.getD e.on false)).getD false=true):((ops[i]?).map (·.after.all fun e=>!Region.binds md e||l'.getD e.on false)).getD false=true:=by
 cases ho:ops[i]? with
 | none=>rw[ho]at q;cases q
 | some o =>
  rw[ho]at q;simp only[Option.map_some,Option.getD_some]at q ⊢;rw[Array.all_eq_true]at q ⊢;intro k hk;have:=q k hk;rw[Bool.or_eq_true]at this ⊢;exact this.imp id (h _)
theorem anyH_clo {P:Program}{md:Region.Mode}{ops:Array Oper}{Q:Exit→Act→World→Prop}{S:World→Prop}(I:Array Bool→Act→World→Prop)
  (hS:∀ l a w,I l a w→S w) (hend:∀ l a w,l.size=ops.size→I l a w→Region.ready md ops l=[]→Q .normal a w)
  (step:∀ l a w i o,l.size=ops.size→Clo md ops l→I l a w→i∈Region.ready md ops l→ops[i]?=some o→∀ K:Act→World→Prop,(∀ a' w',I (l.setIfInBounds i true) a' w'→K a' w')→if Region.wanted o (yielded ops a.tmps)=true then Oper.wp P o a w K Q else K (a.put o.dst undef) w) :
  ∀ n l a w,l.size=ops.size→Clo md ops l→cntF l=n→I l a w→wpAnyH P md ops Q S n l a w:=fun n l a w h1 h2 h3 h4 =>
 anyH_inv (fun l a w=>(l.size=ops.size∧Clo md ops l)∧I l a w) (fun l a w h=>hS l a w h.2) (fun l a w h hr=>hend l a w h.1.1 h.2 hr) (fun l a w i o h hi ho K hK=>step l a w i o h.1.1 h.1.2 h.2 hi ho K fun a' w' h'=>hK a' w' ⟨⟨by rw[Array.size_setIfInBounds];exact h.1.1,fun j hj=>by
  obtain⟨q1,q2,q3⟩:=zbz hi;have hil:i<l.size:=by rw[h.1.1];exact q1
  rw[zco hil]at hj;refine dep_mono (set_mono hil) ?_;by_cases e:j=i
  ·subst e;exact q3
  ·rw[if_neg e]at hj;exact h.1.2 j hj⟩,h'⟩) n l a w h3 ⟨⟨h1,h2⟩,h4⟩
theorem clo_none (md:Region.Mode) (ops:Array Oper) (n:Nat):Clo md ops (Array.replicate n false):=fun i h=>by
 rw[Array.getD_eq_getD_getElem?,Array.getElem?_replicate]at h;split at h <;> cases h
theorem run_conv {P:Program}{w:World}{b:Nat}{C:Array Value}{t e:TypeId}(n c:Nat) (h:w.heap[b]?=some (.cells C e)) (ht:P.underlying t=some (.slice e)) (he:P.underlying e=some (.int .u8)):(convert t t (.slice (some ⟨b,0,none⟩) n c)).run P w=.ok (.slice (some ⟨b,0,none⟩) n c) (w.freeze ⟨b,C.size,none⟩ 1):=by
 have hsh:w.shape? b=some (e,C.size):=by
  unfold World.shape?;rw[h]
 simp[convert,run_underlying ht,run_underlying he,markStringish,hsh]
theorem freeze_at {w:World}{b:Nat}{C:Array Value}{e:TypeId}(h:w.heap[b]?=some (.cells C e)):OnlyK b w (w.freeze ⟨b,C.size,none⟩ 1)∧Bxx (w.freeze ⟨b,C.size,none⟩ 1) b C.toList:=by
 have hs:(w.freeze ⟨b,C.size,none⟩ 1).heap.size=w.heap.size:=by
  unfold World.freeze;rw[if_neg (by decide)];simp
 have hb:(w.freeze ⟨b,C.size,none⟩ 1).heap[b]?=some (.cells C e (C.size,C.size+1)):=by
  unfold World.freeze;rw[if_neg (by decide)];show (w.heap.modify b _)[b]?=_;rw[Array.getElem?_modify,if_pos rfl,h];rfl
 refine⟨⟨?_,?_,?_,Nat.le_of_eq hs.symm,fun k _ hne=>?_⟩,⟨?_,fun i u hu=>⟨?_,?_⟩⟩⟩
 ·unfold World.freeze;rw[if_neg (by decide)]
 ·unfold World.freeze;rw[if_neg (by decide)]
 ·unfold World.freeze;rw[if_neg (by decide)]
 ·unfold World.freeze;rw[if_neg (by decide)];show (w.heap.modify b _)[k]?=_;rw[Array.getElem?_modify,if_neg (fun q=>hne q.symm)]
 ·rw[hs];rcases Nat.lt_or_ge b w.heap.size with q|q
  ·exact q
  ·rw[Array.getElem?_eq_none q]at h;cases h
 ·unfold World.cell?;simp only[hb];simpa using hu
 ·have:=(List.getElem?_eq_some_iff.1 hu).1;unfold World.frozen?;simp only[hb];simp at this ⊢;omega
theorem zdi {ρ:Operand→Value}{o:Oper}{x:Operand}(ho:o.op=Op.move x) {v:Value}(hx:ρ x=v) (w:World):(execOp ρ o).run Tryz.prog w=.ok (.value v) w:=by
 unfold execOp;simp only[ho,hx];go_simp
theorem ey_nil {ρ:Operand→Value}{o:Oper}{x:Operand}(ho:o.op=Op.nilCheck x) {a:Addr}(hx:ρ x=.pointer (some a)) (w:World):(execOp ρ o).run Tryz.prog w=.ok (.value (.pointer (some a))) w:=by
 unfold execOp;simp only[ho,hx];go_simp
theorem ey_field2 {ρ:Operand→Value}{o:Oper}{x:Operand}(ho:o.op=Op.fieldAddr 81 x 2) {G:Nat}(hx:ρ x=.pointer (some ⟨G,0,none⟩)) (w:World):(execOp ρ o).run Tryz.prog w=.ok (.value (.pointer (some ⟨G,2,none⟩))) w:=by
 unfold execOp;simp only[ho,hx];go_simp
theorem ey_loadF {ρ:Operand→Value}{o:Oper}{x:Operand}(ho:o.op=Op.load 44 x) {G:Nat}(hx:ρ x=.pointer (some ⟨G,2,none⟩)) {w:World}{a:Option Addr}{n c:Nat}(hc:w.cell? ⟨G,2,none⟩=some (.slice a n c)):(execOp ρ o).run Tryz.prog w=.ok (.value (.slice a n c)) w:=by
 unfold execOp;simp only[ho,hx];go_simp
theorem ey_storeF {ρ:Operand→Value}{o:Oper}{x y:Operand}(ho:o.op=Op.store 44 x y) {G:Nat}(hx:ρ x=.pointer (some ⟨G,2,none⟩)) {a:Option Addr}{n c:Nat}(hy:ρ y=.slice a n c) {w:World}{u:Value}(hc:w.cell? ⟨G,2,none⟩=some u) (hf:w.frozen? ⟨G,2,none⟩=false):(execOp ρ o).run Tryz.prog w=.ok .skip (w.setCell ⟨G,2,none⟩ (.slice a n c)):=by
 unfold execOp;simp only[ho,hx,hy];go_simp
theorem ey_mul {ρ:Operand→Value}{o:Oper}{k:Int}{x:Operand}(ho:o.op=Op.binOp BinOp.mul 3 (.const (.int .i64 k)) x 3) (hk:ρ (.const (.int .i64 k))=.int .i64 k) {z:Int}(hx:ρ x=.int .i64 z) (hw:IntKind.i64.wrap (k*z)=k*z) (w:World):(execOp ρ o).run Tryz.prog w=.ok (.value (.int .i64 (k*z))) w:=by
 unfold execOp;simp only[ho,hk,hx];go_simp
theorem ey_add {ρ:Operand→Value}{o:Oper}{k:Int}{x:Operand}(ho:o.op=Op.binOp BinOp.add 3 (.const (.int .i64 k)) x 3) (hk:ρ (.const (.int .i64 k))=.int .i64 k) {z:Int}(hx:ρ x=.int .i64 z) (hw:IntKind.i64.wrap (k+z)=k+z) (w:World):(execOp ρ o).run Tryz.prog w=.ok (.value (.int .i64 (k+z))) w:=by
 unfold execOp;simp only[ho,hk,hx];go_simp
theorem ey_main {ρ:Operand→Value}{o:Oper}(ho:o.op=Op.buildSlice 22 4 #[(0,.const (.int .u8 109)),(1,.const (.int .u8 97)),(2,.const (.int .u8 105)),(3,.const (.int .u8 110))]) (h0:∀ z,ρ (.const z)=z) (w:World):(execOp ρ o).run Tryz.prog w=.ok (.value (.slice (some ⟨w.heap.size,0,none⟩) 4 4)) (w.alloc (.cells #[.int .u8 109,.int .u8 97,.int .u8 105,.int .u8 110] 5)):=by
 unfold execOp;simp only[ho];go_simp
theorem ey_conv {ρ:Operand→Value}{o:Oper}{x:Operand}(ho:o.op=Op.convert 22 22 x) {b n c:Nat}(hx:ρ x=.slice (some ⟨b,0,none⟩) n c) {w:World}{C:Array Value}(h:w.heap[b]?=some (.cells C 5)):(execOp ρ o).run Tryz.prog w=.ok (.value (.slice (some ⟨b,0,none⟩) n c)) (w.freeze ⟨b,C.size,none⟩ 1):=by
 have:=run_conv (P:=Tryz.prog) (t:=22) n c h Tryz.underlying22 Tryz.underlying5;unfold execOp;simp only[ho,hx,Sem.run_bind,this];go_simp
theorem ey_slF {ρ:Operand→Value}{o:Oper}{x:Operand}(ho:o.op=Op.buildSlice 44 1 #[(0,x)]) {a0:Option Addr}{n0 c0:Nat}{a1:Option Addr}{n1 c1:Nat}{rk rn:Int}{a2:Option Addr}{n2 c2:Nat}(hx:ρ x=.agg #[.slice a0 n0 c0,.slice a1 n1 c1,.int .i64 rk,.int .i64 rn,.slice a2 n2 c2]) (w:World):(execOp ρ o).run Tryz.prog w=.ok (.value (.slice (some ⟨w.heap.size,0,none⟩) 1 1)) (w.alloc (.cells #[.slice a0 n0 c0,.slice a1 n1 c1,.int .i64 rk,.int .i64 rn,.slice a2 n2 c2] 73)):=by
 unfold execOp;simp only[ho];go_simp
theorem Fu.dats_app1 (l:List Fu) (x:Fu):Fu.dats (l++[x])=Fu.dats l++[x.dat]:=by
 induction l with
 | nil=>rfl
 | cons y r ih=>rw[List.cons_append,Fu.dats,Fu.dats,ih];rfl
theorem FsOk.snoc {fs:List Fu}(h:FsOk fs) {x:Fu}(h1:InR x.rn) (h2:St.goods x.body) (h3:x.params.length≤1000) (h4:∀ i (h2:i<x.params.length),InR x.params[i].tn) (hl:fs.length+1≤1000):FsOk (fs++[x]):=⟨by simpa using hl,fun j hj=>by
 by_cases q:j<fs.length
 ·rw[List.getElem_append_left q];exact h.2 j q
 ·rw[List.getElem_append_right (by omega)];have e:j - fs.length=0:=by simp at hj;omega
  simp only[e,List.getElem_cons_zero]
  exact⟨h1,h2,h3,h4⟩⟩
theorem Cur.keep {B K:Nat}{a:Option Addr}{len cap:Nat}{w w':World}(h:Cur B K a len cap w) (hs:w.heap.size≤w'.heap.size) (hb:∀ b,b<w.heap.size→b≤K→w'.heap[b]?=w.heap[b]?):Cur B K a len cap w':=by
 have hk:=h.hK;have hB:=h.hB;have e:=hb K hk (Nat.le_refl _);refine⟨?_,?_,?_,?_,?_,hB,Nat.lt_of_lt_of_le hk hs,h.hl,fun j hj=>?_⟩
 ·rw[World.cell?_of_block e];exact h.c0
 ·rw[World.cell?_of_block e];exact h.c1
 ·rw[World.cell?_of_block e];exact h.c2
 ·rw[World.frozen?_of_block e];exact h.f1
 ·rw[World.frozen?_of_block e];exact h.f2
 ·obtain⟨bx,off,u,e1,e2,e3,e4⟩:=h.bs j hj;exact⟨bx,off,u,e1,e2,by rw[World.cell?_of_block (hb bx (by omega) (by omega))];exact e3,e4⟩
theorem Gs.make {B K:Nat}{a:Option Addr}{len cap:Nat}{g:GS}{w w':World}{u:Value}{ss:List Sc}{lf:Int}(ok:g.Ok w) (hc:Cur B K a len cap w) (dK:g.D K) (hr:RdL (mask g w) 2 u (Sc.dats ss)) (hs:SsOk ss) (hw:w'=w.alloc (.cells #[.pointer (some ⟨K,0,none⟩),u,.slice none 0 0,.slice none 0 0,.slice none 0 0,.slice none 0 0,.int .i64 0,.int .i64 lf,.int .i64 0,.int .i64 0] 81)):Gs ⟨B,K,w.heap.size,a,len,cap⟩ (g.dirt w.heap.size) w' ⟨u,.slice none 0 0,.slice none 0 0,.slice none 0 0,.slice none 0 0,0,ss,[],0,0⟩∧Stp g w (g.dirt w.heap.size) w':=by
 have l:Later w w':=by rw[hw];exact later1 _ _
 have hb:Bxx w' w.heap.size [.pointer (some ⟨K,0,none⟩),u,.slice none 0 0,.slice none 0 0,.slice none 0 0,.slice none 0 0,.int .i64 0,.int .i64 lf,.int .i64 0,.int .i64 0]:=by rw[hw];exact Bxx.new _ _ _
 have nS:¬ g.S w.heap.size:=fun q=>by have:=ok.s _ q;omega
 have nil:∀ (t:TypeId) (k:Nat),w'.ownsRow (w.heap.size+1) t k (.slice none 0 0) 0 []:=fun t k=>World.ownsRow_nil _ _ _ _;exact⟨⟨(ok.later l.size).dirt hb.lt nS,hc.keep l.size (fun b h1 _=>l.block b h1),.inl dK,.inr rfl,hc.hK,⟨0,lf,hb⟩,hr.sub (Ov.later ok l).sub,hs,⟨[],nil _ _,rfl⟩,⟨by simp,fun j h=>by simp at h⟩,⟨[],nil _ _,fun u q=>by cases q⟩,⟨[],rfl,nil _ _,fun u q=>by cases q⟩,⟨[],nil _ _⟩,(fun b q=>by cases q),(fun b q=>by cases q),(fun b q=>by cases q),(fun b q=>by cases q),(by show (0:Nat)≤1000000;decide),(by show InR (0:Int);unfold InR;omega)⟩,((Stp.refl g w).later l).dirt (Nat.le_refl _)⟩
theorem Gs.pushF {c:Dx}{g:GS}{w w2:World}{v:Gv}(h:Gs c g w v) {x:Fu}{cs:List Value}(hx:RdD (mask g w) x.dat cs) (h5:cs.length=5) (fok:FsOk (v.fs++[x])) {xf:List Value}(f1:w.ownsRow (c.G+1) 73 5 v.fv v.fs.length xf) (f2:ElS (mask g w) 5 (Fu.dats v.fs) xf) {fv':Value}(o2:w2.ownsRow (c.G+1) 73 5 fv' (v.fs.length+1) (xf++cs)) (hg:w.grownBy w2 v.fv.ownBlock) (hloc:fv'.ownBlock=v.fv.ownBlock∨fv'.ownBlock=some w.heap.size):(∃ nx lf:Int,Bxx w2 c.G [.pointer (some ⟨c.K,0,none⟩),v.sv,v.fv,v.nv,v.tv,v.xv,.int .i64 nx,.int .i64 lf,.int .i64 v.rk,.int .i64 v.rn])∧∀ w3,w3=w2.setCell ⟨c.G,2,none⟩ fv'→∃ g',Stp g w g' w3∧Gs c g' w3 { v with fv:=fv',fs:=v.fs++[x] }:=by
 obtain⟨xn,lt,lx,xf0,R,n2,t0,t2,_⟩:=Rs.start h;obtain⟨p1,p2,p3,p4,p5,⟨nx,lf,p6⟩,p7,p8⟩:=R.put hg (fun b e=>⟨(f1.lt b e).1,.inl (h.df b e)⟩) 2 fv';refine⟨⟨nx,lf,p6⟩,fun w3 h3=>?_⟩;rw[←h3]at p1 p2 p3 p4 p5;have hD:=dirtO_D g fv'.ownBlock;have hS:=dirtO_S g fv'.ownBlock;have o3:w3.ownsRow (c.G+1) 73 5 fv' (v.fs.length+1) (xf++cs):=by rw[h3];exact p8 o2
 generalize g.dirtO fv'.ownBlock=g' at *
 have old:∀ b,g'.D b→g.D b∨w.heap.size≤b:=fun b q=>by
  rcases (hD b).1 q with q|q
  ·exact .inl q
  ·rcases hloc with z|z
   ·rw[z]at q;exact .inl (h.df b q)
   ·rw[z]at q;cases q;exact .inr (Nat.le_refl _)
 have lt':∀ b,g'.D b→b<w3.heap.size:=fun b q=>by
  rcases (hD b).1 q with q|q
  ·exact Nat.lt_of_lt_of_le (h.ok.d b q) p4
  ·exact (o3.lt b q).2
 have ov:Ov g w g' w3:=⟨p4,fun b q=>by rw[hS];exact q,fun b q=>p5 b (h.ok.s b q) (.inl (h.ok.a b q))⟩
 refine⟨g',⟨p1,p2,p3,p4,fun b q=>by rw[hS];exact q,fun b q=>(hD b).2 (.inl q),fun b _ q=>by rw[hS]at q;exact q,fun b hb q=>(old b q).elim id fun z=>by omega,fun b hb q=>p5 b hb (.inl q)⟩,⟨⟨fun b q=>by rw[hS]at q;exact Nat.lt_of_lt_of_le (h.ok.s b q) p4,lt',fun b q z=>by
  rw[hS]at q;rcases old b z with z|z
  ·exact h.ok.a b q z
  ·have:=h.ok.s b q;omega⟩,h.cur.keep p4 (fun b h1 h2=>p5 b h1 (.inr h2)),(hD _).2 (.inl h.dK),(hD _).2 (.inl h.dG),h.kg,⟨nx,lf,by rw[h3];exact p6.set 2 fv' (by simp)⟩,h.ss.sub ov.sub,h.sok,⟨xf++cs,by simpa using o3,?_⟩,fok,⟨xn,?_,fun u q=>(n2 u q).sub ov.sub⟩,⟨lt,t0,?_,t2⟩,⟨lx,?_⟩,fun b e=>(hD b).2 (.inr e),fun b e=>(hD b).2 (.inl (h.dn b e)),fun b e=>(hD b).2 (.inl (h.dt b e)),fun b e=>(hD b).2 (.inl (h.dx b e)),h.few,h.rr⟩⟩
 ·show ElS _ 5 (Fu.dats (v.fs++[x])) _;rw[Fu.dats_app1];exact ElS.app (ElS.one h5 (RdD.sub ov.sub _ hx)) _ (ElS.sub ov.sub _ f2)
 ·rw[h3];exact p7 R.rn (fun b e q=>zbp f1 R.rn (by decide) b q e)
 ·rw[h3];exact p7 R.rt (fun b e q=>zbp f1 R.rt (by decide) b q e)
 ·rw[h3];exact p7 R.rx (fun b e q=>zbp f1 R.rx (by decide) b q e)
def inB:Code→Code
 | .block _ c=>c
 | c=>c
def inL:Code→Code
 | .loop c=>c
 | c=>c
noncomputable def srcB:Code:=inB (lt (rt (inL (inB (rt (lt (rt (Tryz.f22.body.getD .skip))))))))
noncomputable def srcF:Code:=inB (lt (rt (inL (inB (rt (lt (rt (rt srcB))))))))
theorem Gs.gname {c:Dx}{g:GS}{w:World}{v:Gv}(h:Gs c g w v) (k:Int) {w1 w2 w3:World}{v3:Value}(e1:w1=w.alloc (.cells #[.int .u8 103] 5)) (l2:Later w1 w2) (o3:w3.ownsRow w.heap.size 5 1 v3 (1+(decL k).length) ([.int .u8 103]++(decL k).map (Value.int .u8))) (g3:w2.grownBy w3 (some w.heap.size)):∃ g',Stp g w g' w3∧Gs c g' w3 v∧NmS (mask g' w3) v3:=by
 have l1:Later w w1:=by rw[e1];exact later1 _ _
 have k2:=(h.later l1).later l2;have hn:=h.new;have k3:=k2.grow g3 fun b e=>by cases e;exact hn
 have s3:=(((Stp.refl g w).later l1).later l2).grow g3 fun b e=>by cases e;exact .inl (Nat.le_refl _)
 have o3':w3.ownsRow w.heap.size 5 1 v3 (103::decL k).length ((103::decL k).map (Value.int .u8)):=by
  rw[List.length_cons,Nat.add_comm];exact o3
 have hbb:=KL.decL_isB k
 have hB:∀ j,isB ((103::decL k).getD j 0):=fun j=>by
  cases j with
  | zero=>exact (show 0≤(103:Int)∧(103:Int)≤255 from ⟨by decide,by decide⟩)
  | succ j=>exact hbb j
 obtain⟨b,e,h1,h2,h3⟩:=NmS.row (g:=g.seal ((v3.ownBlock).getD 0)) o3' hB (by simp);rw[e]at h3;have hd:¬ g.D b:=fun q=>by have:=h.ok.d b q;omega
 exact⟨g.seal b,s3.seal h1,k3.seal h2 hd,h3 ((g.sealed b b).2 (.inr rfl))⟩
theorem FunR.split {c:Dx}{v:Gv}{g:GS}{w:World}{u:Value}{w':World}(h:FunR c v g w u w') (hl:v.fs.length+1≤1000):∃ (g':GS) (v':Gv) (x:Fu) (a0:Option Addr) (n0 c0:Nat) (a1:Option Addr) (m1 c1:Nat) (a2:Option Addr) (n2 c2:Nat),Stp g w g' w'∧Gs c g' w' v'∧v'.fs=v.fs∧v'.fv=v.fv∧v'.ss=v.ss∧v'.sv=v.sv∧u=.agg #[.slice a0 n0 c0,.slice a1 m1 c1,.int .i64 x.rk,.int .i64 x.rn,.slice a2 n2 c2]∧RdD (mask g' w') x.dat [.slice a0 n0 c0,.slice a1 m1 c1,.int .i64 x.rk,.int .i64 x.rn,.slice a2 n2 c2]∧FsOk (v'.fs++[x]):=by
 obtain⟨g',nv,tv,xv,n1,rk,rn,x,a0,n0,c0,a1,m1,c1,a2,n2,c2,s,k,e,r,h1,h2,h3,h4⟩:=h;exact⟨g',_,x,a0,n0,c0,a1,m1,c1,a2,n2,c2,s,k,rfl,rfl,rfl,rfl,e,r,k.fok.snoc h1 h2 (by omega) h4 hl⟩
theorem fr_at {R:Act→World→Prop}{T':List Value}{D:List Deferred}{w:World}{f:(Nat→Value)→List Value}(h:∀ us,R { tmps:=(f us).toArray,defers:=D } w) (e:T'=f (fun i=>T'.getD i undef)):R { tmps:=T'.toArray,defers:=D } w:=by
 rw[e];exact h _
theorem Tryz.underlyingFu:Tryz.prog.underlying 44=some (.slice 73):=by kernel_rfl
theorem Tryz.infoFu:(Tryz.prog.info? 73).map (fun i=>(i.zero,i.size,i.bytes))=some (some (.agg #[.slice none 0 0,.slice none 0 0,.int .i64 0,.int .i64 0,.slice none 0 0]),5,88):=by kernel_rfl
theorem src_F {c:Dx}{g:GS}{w:World}{v:Gv}(h:Gs c g w v) (z i:Int) (hz0:2≤z) (hz1:z≤4) (hi0:0≤i) (hi1:i≤3) (n k RS:Nat) (hk:k≤3) (hf:v.fs.length=k) (Qx:Exit→Act→World→Prop) (hQ:∀ us g' w' v',Stp g w g' w'→Gs c g' w' v'→v'.fs.length=k+1→Qx .normal { tmps:=([.pointer (some ⟨c.K,0,none⟩),.int .i64 z,us 2,us 3,.pointer (some ⟨RS,0,none⟩),.int .i64 i,.pointer (some ⟨c.G,0,none⟩),.int .i64 (n:Int),.int .i64 (k:Int)]++tl us 9 85).toArray,defers:=[] } w') (us:Nat→Value):Code.wp Tryz.prog srcF Qx { tmps:=([.pointer (some ⟨c.K,0,none⟩),.int .i64 z,us 2,us 3,.pointer (some ⟨RS,0,none⟩),.int .i64 i,.pointer (some ⟨c.G,0,none⟩),.int .i64 (n:Int),.int .i64 (k:Int)]++tl us 9 85).toArray,defers:=[] } w:=by
 obtain⟨i0,hj0,hy0,hy1,hy2⟩:=info_parts Tryz.infoFu;obtain⟨i5,hi5,hx0,hx1,hx2⟩:=info_parts Tryz.info5;obtain⟨w1,hw1⟩:=hidx (w.alloc (.cells #[.int .u8 103] 5))
 have r1:w1.ownsRow w.heap.size 5 1 (.slice (some ⟨w.heap.size,0,none⟩) 1 1) 1 [.int .u8 103]:=by
  have:=World.ownsRow_lit (base:=w.heap.size) (e:=5) (size:=1) w #[.int .u8 103] 1 (Nat.le_refl _) (by unfold maxLen;omega) rfl;rw[hw1.out];exact this
 have hD:=dec_any (k:Int) w1 (by unfold InR;omega);have hlen:=zcz (k:Int);have hs1:Hid (w1.heap.size=w.heap.size+1):=by rw[hw1.out,World.size_alloc];exact rfl
 have H0:Hid _:=h;have HN:Hid (∀ {w2 w3:World}{v3:Value},Later w1 w2→w3.ownsRow w.heap.size 5 1 v3 (1+(decL (k:Int)).length) ([.int .u8 103]++(decL (k:Int)).map (Value.int .u8))→w2.grownBy w3 (some w.heap.size)→∃ g',Stp g w g' w3∧Gs c g' w3 v∧NmS (mask g' w3) v3):=fun l2 o3 g3=>h.gname k hw1.out l2 o3 g3;have q1:IntKind.i64.wrap (2+z)=2+z:=by rw[IntKind.wrap_i64];omega
 have q2:IntKind.i64.wrap (2+z - i)=2+z - i:=by rw[IntKind.wrap_i64];omega
 generalize decL (k:Int)=ds at *
 clear h;show Code.wp _ (Code.seq _ _) _ _ _;dsimp only [List.cons_append,List.nil_append,tl,Nat.reduceAdd];go_wp2_with fail
 rw[←hw1.out];clear hw1;refine hD.mono ?_;rintro e w2 ⟨v2,rfl,o2,l2⟩;obtain⟨b2,p2,rfl,hb2,hl2,hc2⟩:=zat o2 hlen.1;have r2:=zay r1 (fun b e=>l2.block b (r1.lt b e).2);have hs2:w.heap.size≤w2.heap.size:=by have:=l2.size;have:=hs1.out;omega
 clear r1 hs1 hD;go_wp2_with (at_builtin;refine wpList_append_own _ rfl _ _ 22 rfl w.heap.size 5 i5 (.int .u8 0) 1 1 Tryz.underlying22 hi5 hx0 hx1 hx2 rfl (by decide) _ _ _ rfl r2 ⟨b2,0,none⟩ ds.length p2 (ds.map (Value.int .u8)) rfl (by rw[List.length_map,Nat.mul_one]) hc2 (zbe ds) (by unfold maxLen;omega) (by omega) hs2 ?_;intro v3 w3 o3 g3 _;obtain⟨g3',s3,k3,n3⟩:=HN.out l2 o3 g3;clear hb2 hl2 hc2 o2 r2 hs2 l2 o3 g3 HN H0;have HB:=zal k3 (2+z - i) (by omega) (by omega))
 refine HB.mono ?_;rintro e w4 ⟨_,rfl,g4,s4,k4,m,rfl,m0,m1⟩
 obtain⟨m,rfl⟩:∃ m':Nat,m=(m':Int):=⟨m.toNat,by omega⟩
 have n4:=n3.sub (Ov.stp k3.ok s4).sub;have q3:IntKind.i64.wrap (1+(m:Int))=((m+1:Nat):Int):=by rw[IntKind.wrap_i64];omega
 have HF:=func_any k4 _ n4 false (m+1) (by omega);have S4:Hid (Stp g w g4 w4):=s3.trans s4;clear HB s4 k3 n3 n4 s3 k4;go_wp2_with fail
 refine HF.mono ?_;rintro e w5 ⟨u,rfl,hu⟩;obtain⟨g5,v5,x,fa0,fn0,fc0,fa1,fm1,fc1,fa2,fn2,fc2,s5,k5,e1,e2,e3,e4,rfl,r5,f5⟩:=hu.split (by omega);clear hu HF;have l6:=later1 w5 (.cells #[.slice fa0 fn0 fc0,.slice fa1 fm1 fc1,.int .i64 x.rk,.int .i64 x.rn,.slice fa2 fn2 fc2] 73);have k6:=k5.later l6;have S6:Hid (Stp g w g5 (w5.alloc (.cells #[.slice fa0 fn0 fc0,.slice fa1 fm1 fc1,.int .i64 x.rk,.int .i64 x.rn,.slice fa2 fn2 fc2] 73))):=(S4.out.trans s5).later l6;have r6:=RdD.sub (Ov.later k5.ok l6).sub _ r5;have b6:=Bxx.new w5 #[.slice fa0 fn0 fc0,.slice fa1 fm1 fc1,.int .i64 x.rk,.int .i64 x.rn,.slice fa2 fn2 fc2] 73;obtain⟨⟨⟨b0,_⟩,⟨b1,_⟩,⟨b2,_⟩,⟨b3,_⟩,⟨b4,_⟩⟩,_⟩:=b6.c5;obtain⟨sv5,fv5,nv5,tv5,xv5,n5,ss5,fs5,rk5,rn5⟩:=v5;dsimp only at e1 e2 e3 e4 f5;obtain⟨xf,f1,f2⟩:=k6.fs;obtain⟨va,vc,hva⟩:=zac f1;dsimp only at hva;subst hva;obtain⟨nx,lf,hbx⟩:=k6.box;obtain⟨cc2,zz2⟩:=hbx.cell 2 _ rfl;obtain⟨cc3,zz3⟩:=(hbx.later (later1 (w5.alloc (.cells #[.slice fa0 fn0 fc0,.slice fa1 fm1 fc1,.int .i64 x.rk,.int .i64 x.rn,.slice fa2 fn2 fc2] 73)) (.cells #[.slice fa0 fn0 fc0,.slice fa1 fm1 fc1,.int .i64 x.rk,.int .i64 x.rn,.slice fa2 fn2 fc2] 73))).cell 2 _ rfl;have hG:=hbx.lt;have ld:=Later.drew (w5.alloc (.cells #[.slice fa0 fn0 fc0,.slice fa1 fm1 fc1,.int .i64 x.rk,.int .i64 x.rn,.slice fa2 fn2 fc2] 73));have k7:=k6.later ld;have S7:=S6.out.later ld;have r7:=RdD.sub (Ov.later k6.ok ld).sub _ r6;have hlen5:fs5.length=k:=by rw[e1];exact hf
 clear hf;have bs7:c.G+1≤(w5.alloc (.cells #[.slice fa0 fn0 fc0,.slice fa1 fm1 fc1,.int .i64 x.rk,.int .i64 x.rn,.slice fa2 fn2 fc2] 73)).drew.heap.size:=Nat.lt_of_lt_of_le hG ld.size
 have HP:Hid (∀ v8 w8,w8.ownsRow (c.G+1) 73 5 v8 (fs5.length+1) (xf++[.slice fa0 fn0 fc0,.slice fa1 fm1 fc1,.int .i64 x.rk,.int .i64 x.rn,.slice fa2 fn2 fc2])→((w5.alloc (.cells #[.slice fa0 fn0 fc0,.slice fa1 fm1 fc1,.int .i64 x.rk,.int .i64 x.rn,.slice fa2 fn2 fc2] 73)).alloc (.cells #[.slice fa0 fn0 fc0,.slice fa1 fm1 fc1,.int .i64 x.rk,.int .i64 x.rn,.slice fa2 fn2 fc2] 73)).drew.grownBy w8 (Value.slice va fs5.length vc).ownBlock→(v8.ownBlock=(Value.slice va fs5.length vc).ownBlock∨v8.ownBlock=some ((w5.alloc (.cells #[.slice fa0 fn0 fc0,.slice fa1 fm1 fc1,.int .i64 x.rk,.int .i64 x.rn,.slice fa2 fn2 fc2] 73)).alloc (.cells #[.slice fa0 fn0 fc0,.slice fa1 fm1 fc1,.int .i64 x.rk,.int .i64 x.rn,.slice fa2 fn2 fc2] 73)).drew.heap.size)→(∃ u,w8.cell? ⟨c.G,2,none⟩=some u∧w8.frozen? ⟨c.G,2,none⟩=false∧c.G<w8.heap.size)∧∃ g' v',Stp g w g' (w8.setCell ⟨c.G,2,none⟩ v8)∧Gs c g' (w8.setCell ⟨c.G,2,none⟩ v8) v'∧v'.fs.length=k+1):=by
  intro v8 w8 o8 g8 h8
  have l7:Later (w5.alloc (.cells #[.slice fa0 fn0 fc0,.slice fa1 fm1 fc1,.int .i64 x.rk,.int .i64 x.rn,.slice fa2 fn2 fc2] 73)).drew ((w5.alloc (.cells #[.slice fa0 fn0 fc0,.slice fa1 fm1 fc1,.int .i64 x.rk,.int .i64 x.rn,.slice fa2 fn2 fc2] 73)).alloc (.cells #[.slice fa0 fn0 fc0,.slice fa1 fm1 fc1,.int .i64 x.rk,.int .i64 x.rn,.slice fa2 fn2 fc2] 73)).drew:=(later1 (w5.alloc (.cells #[.slice fa0 fn0 fc0,.slice fa1 fm1 fc1,.int .i64 x.rk,.int .i64 x.rn,.slice fa2 fn2 fc2] 73)).drew (.cells #[.slice fa0 fn0 fc0,.slice fa1 fm1 fc1,.int .i64 x.rk,.int .i64 x.rn,.slice fa2 fn2 fc2] 73))
  obtain⟨xf2,f1',f2'⟩:=(k7.later l7).fs;obtain⟨⟨nx8,lf8,hb8⟩,hfin⟩:=Gs.pushF (k7.later l7) (RdD.sub (Ov.later k7.ok l7).sub _ r7) rfl f5 (zay f1 (fun b e=>(ld.trans l7).block b (f1.lt b e).2)) (ElS.sub (Ov.later k6.ok (ld.trans l7)).sub _ f2) o8 g8 h8;obtain⟨q1,q2⟩:=hb8.cell 2 _ rfl;obtain⟨g9,s9,k9⟩:=hfin _ rfl;exact⟨⟨_,q1,q2,hb8.lt⟩,g9,_,(S7.later l7).trans s9,k9,by simp[hlen5]⟩
 have l8:Later (w5.alloc (.cells #[.slice fa0 fn0 fc0,.slice fa1 fm1 fc1,.int .i64 x.rk,.int .i64 x.rn,.slice fa2 fn2 fc2] 73)) ((w5.alloc (.cells #[.slice fa0 fn0 fc0,.slice fa1 fm1 fc1,.int .i64 x.rk,.int .i64 x.rn,.slice fa2 fn2 fc2] 73)).alloc (.cells #[.slice fa0 fn0 fc0,.slice fa1 fm1 fc1,.int .i64 x.rk,.int .i64 x.rn,.slice fa2 fn2 fc2] 73)).drew:=(later1 _ _).trans (Later.drew _);have hrow:((w5.alloc (.cells #[.slice fa0 fn0 fc0,.slice fa1 fm1 fc1,.int .i64 x.rk,.int .i64 x.rn,.slice fa2 fn2 fc2] 73)).alloc (.cells #[.slice fa0 fn0 fc0,.slice fa1 fm1 fc1,.int .i64 x.rk,.int .i64 x.rn,.slice fa2 fn2 fc2] 73)).drew.ownsRow (c.G+1) 73 5 (.slice va fs5.length vc) fs5.length xf:=zay f1 (fun b e=>l8.block b (f1.lt b e).2);have bs8:=Nat.le_trans bs7 (Nat.le_of_lt (Nat.lt_of_lt_of_le (Nat.lt_succ_self _) (Nat.le_of_eq (World.size_alloc (w5.alloc (.cells #[.slice fa0 fn0 fc0,.slice fa1 fm1 fc1,.int .i64 x.rk,.int .i64 x.rn,.slice fa2 fn2 fc2] 73)) (.cells #[.slice fa0 fn0 fc0,.slice fa1 fm1 fc1,.int .i64 x.rk,.int .i64 x.rn,.slice fa2 fn2 fc2] 73)).symm)));have HQ:Hid _:=hQ;clear hQ S6 S7 S4 k5 k6 k7 s5 r5 r6 r7 f1 f2 f5 ld l6 hbx b6 e1 e2 e3 e4 l8;subst hlen5;go_upto_region 10 with fail
 refine wp_region_noPanic ?_
 go_region_law (first
  | (refine zae rfl _ _ 44 rfl (c.G+1) 73 i0 (.agg #[.slice none 0 0,.slice none 0 0,.int .i64 0,.int .i64 0,.slice none 0 0]) 5 88 Tryz.underlyingFu hj0 hy0 hy1 hy2 rfl (by decide) _ _ _ rfl hrow _ 1 1 [.slice fa0 fn0 fc0,.slice fa1 fm1 fc1,.int .i64 x.rk,.int .i64 x.rn,.slice fa2 fn2 fc2] rfl rfl (zao _ _ _ (by simp)) (by simp[Value.oneCell']) (by unfold maxLen;omega) (by omega) bs8 ?_;intro v8 w8 o8 g8 h8;obtain⟨a8,c8,hv8⟩:=zac o8;subst hv8;obtain⟨⟨u8,q8,z8,G8⟩,g9,v9,s9,k9,e9⟩:=HP.out _ _ o8 g8 h8;have K9:Hid (Stp g w g9 (w8.setCell ⟨c.G,2,none⟩ (.slice a8 (fs5.length+1) c8))∧Gs c g9 (w8.setCell ⟨c.G,2,none⟩ (.slice a8 (fs5.length+1) c8)) v9∧v9.fs.length=fs5.length+1):=⟨s9,k9,e9⟩;clear s9 k9 e9 o8 g8 h8))
 all_goals
  clear hrow HP;go_wp2_with fail
  show Qx .normal _ _;exact fr_at (fun us=>HQ.out us _ _ _ K9.out.1 K9.out.2.1 K9.out.2.2) rfl
noncomputable def srcT:Code:=rt (rt (rt srcB))
theorem en_func:Enters Tryz.prog 40:=zai Tryz.func40 (by kernel_rfl) (by kernel_rfl)
theorem zdy {l:Array Bool}{i:Nat}(h:i<l.size):l.getD i true=l.getD i false:=by simp[Array.getD,h]
theorem all_done {md:Region.Mode}{ops:Array Oper}{l:Array Bool}(h0:Region.ready md ops l=[]) (hs:l.size=ops.size) (hdep:((List.range ops.size).all fun i=>((ops[i]?).map fun o=>o.after.all fun e=>decide (e.on<i)).getD true)=true):∀ n i,i<n→i<ops.size→l.getD i false=true:=by
 intro n
 induction n with
 | zero=>intro i h;omega
 | succ n ih =>
  intro i h hi;refine zaj h0 hs hi ?_;have hd:=List.all_eq_true.1 hdep i (List.mem_range.2 hi);rw[Array.getElem?_eq_getElem hi]at hd ⊢;simp only[Option.map_some,Option.getD_some]at hd ⊢;rw[Array.all_eq_true]at hd ⊢;intro k hk;have q:=of_decide_eq_true (hd k hk);rw[Bool.or_eq_true];exact .inr (ih _ (by omega) (by omega))
def fr11 (c:Dx) (RS:Nat) (z i:Int) (us:Nat→Value):List Value:=[.pointer (some ⟨c.K,0,none⟩),.int .i64 z,us 2,us 3,.pointer (some ⟨RS,0,none⟩),.int .i64 i,.pointer (some ⟨c.G,0,none⟩)]++tl us 7 87
def V11 (c:Dx) (n0:Nat) (g:GS) (w:World) (fv:Value) (fs:List Fu) (z:Int):Nat→Value→Prop
 | 0,u=>u=.pointer (some ⟨c.G,0,none⟩)
 | 1,u=>u=.pointer (some ⟨c.G,0,none⟩)
 | 2,u=>u=.pointer (some ⟨c.G,0,none⟩)
 | 3,u=>u=.pointer (some ⟨c.G,2,none⟩)
 | 4,u=>u=fv
 | 5,u=>u=.pointer (some ⟨c.G,0,none⟩)
 | 6,u=>∃ b,u=.slice (some ⟨b,0,none⟩) 4 4∧w.heap[b]?=some (.cells #[.int .u8 109,.int .u8 97,.int .u8 105,.int .u8 110] 5)∧b<w.heap.size∧¬ g.S b∧¬ g.D b∧c.G<b∧n0≤b
 | 7,u=>NmS (mask g w) u
 | 8,u=>u=.pointer (some ⟨c.K,0,none⟩)
 | 9,u=>u=.int .i64 z
 | 10,u=>u=.int .i64 (2*z)
 | 11,u=>u=.int .i64 (3+2*z)
 | 12,u=>∃ m:Nat,u=.int .i64 (m:Int)∧(m:Int)<3+2*z
 | 13,u=>∃ m:Nat,u=.int .i64 (m:Int)∧m≤1000
 | 14,u=>∃ x:Fu,∃ a0 n0 c0 a1 n1 c1 a2 n2 c2,u=.agg #[.slice a0 n0 c0,.slice a1 n1 c1,.int .i64 x.rk,.int .i64 x.rn,.slice a2 n2 c2]∧RdD (mask g w) x.dat [.slice a0 n0 c0,.slice a1 n1 c1,.int .i64 x.rk,.int .i64 x.rn,.slice a2 n2 c2]∧FsOk (fs++[x])
 | 15,u=>∃ b,∃ x:Fu,∃ a0 n0 c0 a1 n1 c1 a2 n2 c2,u=.slice (some ⟨b,0,none⟩) 1 1∧Lb c g w b [.slice a0 n0 c0,.slice a1 n1 c1,.int .i64 x.rk,.int .i64 x.rn,.slice a2 n2 c2]∧RdD (mask g w) x.dat [.slice a0 n0 c0,.slice a1 n1 c1,.int .i64 x.rk,.int .i64 x.rn,.slice a2 n2 c2]∧FsOk (fs++[x])
 | _,_=>False
theorem V11.stp {c:Dx}{n0:Nat}{g g':GS}{w w':World}{fv:Value}{fs:List Fu}{z:Int}(ok:g.Ok w) (s:Stp g w g' w'):∀ {j:Nat}{u:Value},V11 c n0 g w fv fs z j u→V11 c n0 g' w' fv fs z j u
 | 0,_,h=>h
 | 1,_,h=>h
 | 2,_,h=>h
 | 3,_,h=>h
 | 4,_,h=>h
 | 5,_,h=>h
 | 6,_,⟨b,e,h,hl,hS,hD,hG,hn⟩=>⟨b,e,by rw[s.block b hl hD];exact h,Nat.lt_of_lt_of_le hl s.size,fun q=>hS (s.s' b hl q),fun q=>hD (s.d' b hl q),hG,hn⟩
 | 7,_,h=>h.sub (Ov.stp ok s).sub
 | 8,_,h=>h
 | 9,_,h=>h
 | 10,_,h=>h
 | 11,_,h=>h
 | 12,_,h=>h
 | 13,_,h=>h
 | 14,_,⟨x,a0,n0,c0,a1,n1,c1,a2,n2,c2,e,h,k⟩=>⟨x,a0,n0,c0,a1,n1,c1,a2,n2,c2,e,RdD.sub (Ov.stp ok s).sub _ h,k⟩
 | 15,_,⟨b,x,a0,n0,c0,a1,n1,c1,a2,n2,c2,e,hb,h,k⟩=>⟨b,x,a0,n0,c0,a1,n1,c1,a2,n2,c2,e,hb.stp s,RdD.sub (Ov.stp ok s).sub _ h,k⟩
 | _+16,_,h=>h
theorem V11.only {c:Dx}{n0:Nat}{g g':GS}{w w':World}{fv:Value}{fs:List Fu}{z:Int}(o:Sub (mask g w) (mask g' w')):∀ {j:Nat}{u:Value},V11 c n0 g w fv fs z j u→j≠6→j≠15→V11 c n0 g' w' fv fs z j u
 | 0,_,h,_,_=>h
 | 1,_,h,_,_=>h
 | 2,_,h,_,_=>h
 | 3,_,h,_,_=>h
 | 4,_,h,_,_=>h
 | 5,_,h,_,_=>h
 | 6,_,_,q,_=>absurd rfl q
 | 7,_,h,_,_=>h.sub o
 | 8,_,h,_,_=>h
 | 9,_,h,_,_=>h
 | 10,_,h,_,_=>h
 | 11,_,h,_,_=>h
 | 12,_,h,_,_=>h
 | 13,_,h,_,_=>h
 | 14,_,⟨x,a0,n0,c0,a1,n1,c1,a2,n2,c2,e,h,k⟩,_,_=>⟨x,a0,n0,c0,a1,n1,c1,a2,n2,c2,e,RdD.sub o _ h,k⟩
 | 15,_,_,_,q=>absurd rfl q
 | _+16,_,h,_,_=>h
def HalfF (c:Dx) (g0:GS) (w0:World) (k:Nat) (u:Value) (w:World):Prop:=(∃ q,w.cell? ⟨c.G,2,none⟩=some q∧w.frozen? ⟨c.G,2,none⟩=false)∧∃ g' v',Stp g0 w0 g' (w.setCell ⟨c.G,2,none⟩ u)∧Gs c g' (w.setCell ⟨c.G,2,none⟩ u) v'∧v'.fs.length=k+1
def A11 (c:Dx) (g0:GS) (w0:World) (fv:Value) (fs:List Fu) (z:Int) (l:Array Bool) (us:Nat→Value) (w:World):Prop:=l.getD 16 false=false∧∃ g v,Stp g0 w0 g w∧Gs c g w v∧v.fv=fv∧v.fs=fs∧∀ j,j<16→l.getD j false=true→(j=6→l.getD 7 false=false)→V11 c w0.heap.size g w fv fs z j (us (53+j))
def B11 (c:Dx) (g0:GS) (w0:World) (fs:List Fu) (l:Array Bool) (us:Nat→Value) (w:World):Prop:=l.getD 16 false=true∧l.getD 19 false=false∧(∀ j,1≤j→j≤15→l.getD j false=true)∧(l.getD 0 false=true→us 53=.pointer (some ⟨c.G,0,none⟩))∧(l.getD 17 false=true→us 70=.pointer (some ⟨c.G,0,none⟩))∧(l.getD 18 false=true→us 71=.pointer (some ⟨c.G,2,none⟩))∧∃ a n p,us 69=.slice a n p∧HalfF c g0 w0 fs.length (.slice a n p) w
def C11 (c:Dx) (g0:GS) (w0:World) (fs:List Fu) (l:Array Bool) (w:World):Prop:=(∀ j,j<20→l.getD j false=true)∧∃ g v,Stp g0 w0 g w∧Gs c g w v∧v.fs.length=fs.length+1
def I11 (c:Dx) (RS:Nat) (i:Int) (g0:GS) (w0:World) (fv:Value) (fs:List Fu) (z:Int) (l:Array Bool) (a:Act) (w:World):Prop:=∃ us,a={ tmps:=(fr11 c RS z i us).toArray,defers:=[] }∧(A11 c g0 w0 fv fs z l us w∨B11 c g0 w0 fs l us w∨C11 c g0 w0 fs l w)
theorem I11.put {c:Dx}{RS:Nat}{i:Int}{g0:GS}{w0:World}{fv:Value}{fs:List Fu}{z:Int}{l:Array Bool}{us:Nat→Value}{g:GS}{w:World}{v:Gv}(hsz:l.size=20) (h16:l.getD 16 false=false) (st:Stp g0 w0 g w) (hg:Gs c g w v) (hv:∀ j,j<16→l.getD j false=true→(j=6→l.getD 7 false=false)→V11 c w0.heap.size g w fv fs z j (us (53+j))) (n:Nat) (hn:n<16) (h7:n≠7) (u:Value) {g':GS}{w':World}{v':Gv}(s:Stp g w g' w') (k:Gs c g' w' v') (e1:v'.fv=fv) (e2:v'.fs=fs) (hu:V11 c w0.heap.size g' w' fv fs z n u) (hf:({ tmps:=(fr11 c RS z i us).toArray,defers:=[] }:Act).put (some (53+n)) u=({ tmps:=(fr11 c RS z i (updS us (53+n) u)).toArray,defers:=[] }:Act)):I11 c RS i g0 w0 fv fs z (l.setIfInBounds n true) (({ tmps:=(fr11 c RS z i us).toArray,defers:=[] }:Act).put (some (53+n)) u) w':=by
 refine⟨_,hf,.inl ⟨?_,g',v',st.trans s,k,e1,e2,fun j hj hl h6=>?_⟩⟩
 ·rw[zco (by omega),if_neg (by omega)];exact h16
 rw[zco (by omega)]at hl;by_cases e:j=n
 ·subst e;simpa[updS] using hu
 ·rw[if_neg e]at hl
  have:=V11.stp hg.ok s (hv j hj hl fun q=>by
   have:=h6 q;rw[zco (by omega),if_neg (fun z=>h7 z.symm)]at this
   exact this)
  simpa[updS,e] using this
theorem B11.put {c:Dx}{RS:Nat}{i z:Int}{g0:GS}{w0:World}{fv:Value}{fs:List Fu}{l:Array Bool}{us:Nat→Value}{w:World}(hsz:l.size=20) (h:B11 c g0 w0 fs l us w) (n:Nat) (hn:n=0∨n=17∨n=18) (u:Value) (hu:(n=0→u=.pointer (some ⟨c.G,0,none⟩))∧(n=17→u=.pointer (some ⟨c.G,0,none⟩))∧(n=18→u=.pointer (some ⟨c.G,2,none⟩))) (hf:({ tmps:=(fr11 c RS z i us).toArray,defers:=[] }:Act).put (some (53+n)) u=({ tmps:=(fr11 c RS z i (updS us (53+n) u)).toArray,defers:=[] }:Act)):I11 c RS i g0 w0 fv fs z (l.setIfInBounds n true) (({ tmps:=(fr11 c RS z i us).toArray,defers:=[] }:Act).put (some (53+n)) u) w:=by
 obtain⟨h1,h2,h3,h4,h5,h6,a,m,p,h7,h8⟩:=h;have hset:∀ j,(l.setIfInBounds n true).getD j false=if j=n then true else l.getD j false:=fun j=>zco (by omega) j
 refine⟨_,hf,.inr (.inl ⟨?_,?_,fun j q1 q2=>?_,fun q=>?_,fun q=>?_,fun q=>?_,a,m,p,?_,h8⟩)⟩
 ·rw[hset,if_neg (by omega)];exact h1
 ·rw[hset,if_neg (by omega)];exact h2
 ·rw[hset];split
  ·rfl
  ·exact h3 j q1 q2
 ·rw[hset]at q;by_cases e:n=0
  ·subst e;simpa[updS] using hu.1 rfl
  ·rw[if_neg (fun z=>e z.symm)]at q;simpa[updS,e] using h4 q
 ·rw[hset]at q;by_cases e:n=17
  ·subst e;simpa[updS] using hu.2.1 rfl
  ·rw[if_neg (fun z=>e z.symm)]at q;have e3:¬ 70=53+n:=by omega
   simpa[updS,e3] using h5 q
 ·rw[hset]at q;by_cases e:n=18
  ·subst e;simpa[updS] using hu.2.2 rfl
  ·rw[if_neg (fun z=>e z.symm)]at q;have e3:¬ 71=53+n:=by omega
   simpa[updS,e3] using h6 q
 ·have e3:¬ 69=53+n:=by omega
  simpa[updS,e3] using h7
theorem src_M {c:Dx}{g:GS}{w:World}{v:Gv}(h:Gs c g w v) (z i:Int) (hz0:2≤z) (hz1:z≤4) (RS:Nat) (hfs:v.fs.length+1≤1000) (Q:Exit→Act→World→Prop) (HM:∀ us g' w' v',Stp g w g' w'→Gs c g' w' v'→v'.fs.length=v.fs.length+1→Q .normal { tmps:=(fr11 c RS z i us).toArray,defers:=[] } w') (us:Nat→Value):Code.wp Tryz.prog (lt srcT) Q { tmps:=(fr11 c RS z i us).toArray,defers:=[] } w:=by
 obtain⟨i0,hj0,hy0,hy1,hy2⟩:=info_parts Tryz.infoFu;have S0:Stp g w g w.drew:=(Stp.refl g w).later (Later.drew w);have h1:=h.later (Later.drew w)
 generalize hw0:w=w0 at *
 clear hw0
 obtain⟨fv,hfv⟩:∃ fv,fv=v.fv:=⟨_,rfl⟩
 obtain⟨fs,hff⟩:∃ fs,fs=v.fs:=⟨_,rfl⟩
 rw[←hff]at hfs HM;refine wp_region_held (S:=fun _=>True) (by kernel_rfl) ?_;refine anyH_clo (I11 c RS i g w0 fv fs z) (fun _ _ _ _=>trivial) ?hend ?step _ _ _ _ rfl (clo_none _ _ _) (by kernel_rfl) ?start
 case start =>
  refine⟨us,rfl,.inl ⟨by simp[Array.getD],g,v,S0,h1,hfv.symm,hff.symm,fun j _ hl=>?_⟩⟩;rw[Array.getD_eq_getD_getElem?,Array.getElem?_replicate]at hl;split at hl <;> cases hl
 case step =>
  rintro l a w6 n o hsz hclo ⟨us,rfl,hI⟩ hi ho K hK;obtain⟨h1,h2,h3⟩:=zbz hi;have hsz:l.size=20:=hsz;have hn20:n<20:=h1;clear hi S0 h;rcases hI with ⟨h16,g6,v6,st,hgs,ev,es,hv⟩|hB|hC
  ·obtain⟨nx,lf,hbx⟩:=hgs.box;obtain⟨hcell,hfr⟩:=hbx.cell 2 _ rfl;have hcell:w6.cell? ⟨c.G,2,none⟩=some v6.fv:=hcell;rw[ev]at hcell;obtain⟨xf0,f0,_⟩:=hgs.fs;obtain⟨va,vc,hva⟩:=zac f0;rw[ev,es]at hva;subst hva;clear f0 hbx hfr;have hc:n=0∨n=1∨n=2∨n=3∨n=4∨n=5∨n=6∨n=7∨n=8∨n=9∨n=10∨n=11∨n=12∨n=13∨n=14∨n=15∨n=16∨n=17∨n=18∨n=19:=by omega
   rcases hc with rfl|rfl|rfl|rfl|rfl|rfl|rfl|rfl|rfl|rfl|rfl|rfl|rfl|rfl|rfl|rfl|rfl|rfl|rfl|rfl
   ·obtain rfl:=Option.some.inj ho;refine zag rfl _ _ (zdi (v:=.pointer (some ⟨c.G,0,none⟩)) rfl (by kernel_rfl) w6) ?_;exact hK _ _ (I11.put hsz h16 st hgs hv 0 (by decide) (by decide) _ (Stp.refl _ _) hgs ev es rfl (by kernel_rfl))
   ·obtain rfl:=Option.some.inj ho;refine zag rfl _ _ (zdi (v:=.pointer (some ⟨c.G,0,none⟩)) rfl (by kernel_rfl) w6) ?_;exact hK _ _ (I11.put hsz h16 st hgs hv 1 (by decide) (by decide) _ (Stp.refl _ _) hgs ev es rfl (by kernel_rfl))
   ·obtain rfl:=Option.some.inj ho;have d1:l.getD 1 false=true:=by simpa[Region.binds] using h3
    have v1:us 54=.pointer (some ⟨c.G,0,none⟩):=hv 1 (by decide) d1 (fun q=>absurd q (by decide));refine zag rfl _ _ (ey_nil rfl ((by kernel_rfl:({ tmps:=(fr11 c RS z i us).toArray,defers:=[] }:Act).eval (.tmp 54)=us 54).trans v1) w6) ?_;exact hK _ _ (I11.put hsz h16 st hgs hv 2 (by decide) (by decide) _ (Stp.refl _ _) hgs ev es rfl (by kernel_rfl))
   ·obtain rfl:=Option.some.inj ho;have d2:l.getD 2 false=true:=by simpa[Region.binds] using h3
    have v2:us 55=.pointer (some ⟨c.G,0,none⟩):=hv 2 (by decide) d2 (fun q=>absurd q (by decide));refine zag rfl _ _ (ey_field2 rfl ((by kernel_rfl:({ tmps:=(fr11 c RS z i us).toArray,defers:=[] }:Act).eval (.tmp 55)=us 55).trans v2) w6) ?_;exact hK _ _ (I11.put hsz h16 st hgs hv 3 (by decide) (by decide) _ (Stp.refl _ _) hgs ev es rfl (by kernel_rfl))
   ·obtain rfl:=Option.some.inj ho;have d3:l.getD 3 false=true:=by simpa[Region.binds] using h3
    have v3:us 56=.pointer (some ⟨c.G,2,none⟩):=hv 3 (by decide) d3 (fun q=>absurd q (by decide));refine zag rfl _ _ (ey_loadF rfl ((by kernel_rfl:({ tmps:=(fr11 c RS z i us).toArray,defers:=[] }:Act).eval (.tmp 56)=us 56).trans v3) hcell) ?_;exact hK _ _ (I11.put hsz h16 st hgs hv 4 (by decide) (by decide) _ (Stp.refl _ _) hgs ev es rfl (by kernel_rfl))
   ·obtain rfl:=Option.some.inj ho;refine zag rfl _ _ (zdi (v:=.pointer (some ⟨c.G,0,none⟩)) rfl (by kernel_rfl) w6) ?_;exact hK _ _ (I11.put hsz h16 st hgs hv 5 (by decide) (by decide) _ (Stp.refl _ _) hgs ev es rfl (by kernel_rfl))
   ·obtain rfl:=Option.some.inj ho;refine zag rfl _ _ (ey_main rfl (fun _=>rfl) w6) ?_;have lt:=later1 w6 (.cells #[.int .u8 109,.int .u8 97,.int .u8 105,.int .u8 110] 5);exact hK _ _ (I11.put hsz h16 st hgs hv 6 (by decide) (by decide) _ ((Stp.refl _ _).later lt) (hgs.later lt) ev es ⟨w6.heap.size,rfl,(MapKept.heap_alloc w6 _).1,by rw[World.size_alloc];omega,hgs.new.1,hgs.new.2.1,hgs.new.2.2,st.size⟩ (by kernel_rfl))
   ·obtain rfl:=Option.some.inj ho;have d6:l.getD 6 false=true:=by simpa[Region.binds] using h3
    obtain⟨b,v6e,hb,hbl,hS,hD,hG,hn⟩:∃ b,us 59=.slice (some ⟨b,0,none⟩) 4 4∧w6.heap[b]?=some (.cells #[.int .u8 109,.int .u8 97,.int .u8 105,.int .u8 110] 5)∧b<w6.heap.size∧¬ g6.S b∧¬ g6.D b∧c.G<b∧w0.heap.size≤b:=hv 6 (by decide) d6 (fun _=>by rw[←zdy (by omega)];exact h2);refine zag rfl _ _ (ey_conv rfl ((by kernel_rfl:({ tmps:=(fr11 c RS z i us).toArray,defers:=[] }:Act).eval (.tmp 59)=us 59).trans v6e) hb) ?_;obtain⟨o7,b7⟩:=freeze_at hb;have k7:=(hgs.own o7 hS hD hG).seal (Nat.lt_of_lt_of_le hbl o7.size) hD;have s7:=(st.only o7 (.inl hn)).seal hn;have ov:=((Ov.only hgs.ok o7 hS).trans (Ov.seal g6 _ b)).sub;have nm:=RdN.lit (g:=g6.seal b) (zs:=[109,97,105,110]) b7 ((g6.sealed b b).2 (.inr rfl)) (zbv (by decide)) (by decide);refine hK _ _ ⟨_,(by kernel_rfl:({ tmps:=(fr11 c RS z i us).toArray,defers:=[] }:Act).put (some 60) (.slice (some ⟨b,0,none⟩) 4 4)=({ tmps:=(fr11 c RS z i (updS us 60 (.slice (some ⟨b,0,none⟩) 4 4))).toArray,defers:=[] }:Act)),.inl ⟨?_,g6.seal b,v6,s7,k7,ev,es,fun j hj hl h6=>?_⟩⟩
    ·rw[zco (by omega),if_neg (by decide)];exact h16
    rw[zco (by omega)]at hl;by_cases e:j=7
    ·subst e;show NmS _ _;exact⟨_,nm⟩
    rw[if_neg e]at hl
    have q6:j≠6:=fun q=>by
     have:=h6 q;rw[zco (by omega),if_pos rfl]at this
     cases this
    have q15:j≠15:=fun q=>by
     subst q;have c15:l.getD 14 false=true:=by have:=hclo 15 hl;simpa[Region.binds] using this
     have c14:l.getD 7 false=true:=by have:=hclo 14 c15;simp[Region.binds]at this;simp[this]
     rw[zdy (by omega)]at h2;rw[c14]at h2
     cases h2
    have:=V11.only ov (hv j hj hl fun q=>absurd q q6) q6 q15;have e3:¬ 53+j=60:=by omega
    simpa[updS,e3] using this
   ·obtain rfl:=Option.some.inj ho;refine zag rfl _ _ (zdi (v:=.pointer (some ⟨c.K,0,none⟩)) rfl (by kernel_rfl) w6) ?_;exact hK _ _ (I11.put hsz h16 st hgs hv 8 (by decide) (by decide) _ (Stp.refl _ _) hgs ev es rfl (by kernel_rfl))
   ·obtain rfl:=Option.some.inj ho;refine zag rfl _ _ (zdi (v:=.int .i64 z) rfl (by kernel_rfl) w6) ?_;exact hK _ _ (I11.put hsz h16 st hgs hv 9 (by decide) (by decide) _ (Stp.refl _ _) hgs ev es rfl (by kernel_rfl))
   ·obtain rfl:=Option.some.inj ho;have d9:l.getD 9 false=true:=by simpa[Region.binds] using h3
    have v9:us 62=.int .i64 z:=hv 9 (by decide) d9 (fun q=>absurd q (by decide));refine zag rfl _ _ (ey_mul rfl rfl ((by kernel_rfl:({ tmps:=(fr11 c RS z i us).toArray,defers:=[] }:Act).eval (.tmp 62)=us 62).trans v9) (by rw[IntKind.wrap_i64];omega) w6) ?_;exact hK _ _ (I11.put hsz h16 st hgs hv 10 (by decide) (by decide) _ (Stp.refl _ _) hgs ev es rfl (by kernel_rfl))
   ·obtain rfl:=Option.some.inj ho;have d10:l.getD 10 false=true:=by simpa[Region.binds] using h3
    have v10:us 63=.int .i64 (2*z):=hv 10 (by decide) d10 (fun q=>absurd q (by decide));refine zag rfl _ _ (ey_add rfl rfl ((by kernel_rfl:({ tmps:=(fr11 c RS z i us).toArray,defers:=[] }:Act).eval (.tmp 63)=us 63).trans v10) (by rw[IntKind.wrap_i64];omega) w6) ?_;exact hK _ _ (I11.put hsz h16 st hgs hv 11 (by decide) (by decide) _ (Stp.refl _ _) hgs ev es rfl (by kernel_rfl))
   ·obtain rfl:=Option.some.inj ho;have hd:l.getD 8 false=true∧l.getD 11 false=true:=by simp[Region.binds]at h3;simp[h3]
    obtain⟨d8,d11⟩:=hd;have v8:us 61=.pointer (some ⟨c.K,0,none⟩):=hv 8 (by decide) d8 (fun q=>absurd q (by decide));have v11:us 64=.int .i64 (3+2*z):=hv 11 (by decide) d11 (fun q=>absurd q (by decide));refine zaa rfl 39 zaw [.tmp 61,.tmp 64] _ rfl [.pointer (some ⟨c.K,0,none⟩),.int .i64 (3+2*z)] ?_ _ (AnsP.call (Later.refl _) (zal hgs (3+2*z) (by omega) (by omega))) ?_
    ·rw[←v8,← v11];kernel_rfl
    rintro u w7 ⟨g7,s7,k7,m,rfl,m0,m1⟩
    obtain⟨m,rfl⟩:∃ m':Nat,m=(m':Int):=⟨m.toNat,by omega⟩
    exact hK _ _ (I11.put hsz h16 st hgs hv 12 (by decide) (by decide) _ s7 k7 ev es ⟨m,rfl,m1⟩ (by kernel_rfl))
   ·obtain rfl:=Option.some.inj ho;have d12:l.getD 12 false=true:=by simpa[Region.binds] using h3
    obtain⟨m,v12,m1⟩:∃ m:Nat,us 65=.int .i64 (m:Int)∧(m:Int)<3+2*z:=hv 12 (by decide) d12 (fun q=>absurd q (by decide));refine zag rfl _ _ (ey_add rfl rfl ((by kernel_rfl:({ tmps:=(fr11 c RS z i us).toArray,defers:=[] }:Act).eval (.tmp 65)=us 65).trans v12) (by rw[IntKind.wrap_i64];omega) w6) ?_;exact hK _ _ (I11.put hsz h16 st hgs hv 13 (by decide) (by decide) _ (Stp.refl _ _) hgs ev es ⟨2+m,by simp,by omega⟩ (by kernel_rfl))
   ·obtain rfl:=Option.some.inj ho;have hd:l.getD 5 false=true∧l.getD 7 false=true∧l.getD 13 false=true:=by simp[Region.binds]at h3;simp[h3]
    obtain⟨d5,d7,d13⟩:=hd;have v5:us 58=.pointer (some ⟨c.G,0,none⟩):=hv 5 (by decide) d5 (fun q=>absurd q (by decide));have v7:NmS (mask g6 w6) (us 60):=hv 7 (by decide) d7 (fun q=>absurd q (by decide));obtain⟨m,v13,m1⟩:∃ m:Nat,us 66=.int .i64 (m:Int)∧m≤1000:=hv 13 (by decide) d13 (fun q=>absurd q (by decide));refine zaa rfl 40 en_func [.tmp 58,.tmp 60,.const (.bool true),.tmp 66] _ rfl [.pointer (some ⟨c.G,0,none⟩),us 60,.bool true,.int .i64 (m:Int)] ?_ _ (func_any hgs (us 60) v7 true m m1) ?_
    ·rw[←v5,← v13];kernel_rfl
    rintro u w7 hu;obtain⟨g7,v7,x,a0,n0,c0,a1,n1,c1,a2,n2,c2,s7,k7,e1,e2,_,_,rfl,r7,f7⟩:=hu.split (by rw[es];exact hfs);rw[e1,es]at f7;exact hK _ _ (I11.put hsz h16 st hgs hv 14 (by decide) (by decide) _ s7 k7 (e2.trans ev) (e1.trans es) ⟨x,a0,n0,c0,a1,n1,c1,a2,n2,c2,rfl,r7,f7⟩ (by kernel_rfl))
   ·obtain rfl:=Option.some.inj ho;have d14:l.getD 14 false=true:=by simpa[Region.binds] using h3
    obtain⟨x,a0,n0,c0,a1,n1,c1,a2,n2,c2,v14,r14,f14⟩:∃ x:Fu,∃ a0 n0 c0 a1 n1 c1 a2 n2 c2,us 67=.agg #[.slice a0 n0 c0,.slice a1 n1 c1,.int .i64 x.rk,.int .i64 x.rn,.slice a2 n2 c2]∧RdD (mask g6 w6) x.dat [.slice a0 n0 c0,.slice a1 n1 c1,.int .i64 x.rk,.int .i64 x.rn,.slice a2 n2 c2]∧FsOk (fs++[x]):=hv 14 (by decide) d14 (fun q=>absurd q (by decide));refine zag rfl _ _ (ey_slF rfl ((by kernel_rfl:({ tmps:=(fr11 c RS z i us).toArray,defers:=[] }:Act).eval (.tmp 67)=us 67).trans v14) w6) ?_;have lt:=later1 w6 (.cells #[.slice a0 n0 c0,.slice a1 n1 c1,.int .i64 x.rk,.int .i64 x.rn,.slice a2 n2 c2] 73);exact hK _ _ (I11.put hsz h16 st hgs hv 15 (by decide) (by decide) _ ((Stp.refl _ _).later lt) (hgs.later lt) ev es ⟨_,x,a0,n0,c0,a1,n1,c1,a2,n2,c2,rfl,Lb.new hgs [.slice a0 n0 c0,.slice a1 n1 c1,.int .i64 x.rk,.int .i64 x.rn,.slice a2 n2 c2] 73,RdD.sub (Ov.later hgs.ok lt).sub _ r14,f14⟩ (by kernel_rfl))
   ·obtain rfl:=Option.some.inj ho;have hd:l.getD 4 false=true∧l.getD 14 false=true∧l.getD 15 false=true:=by simp[Region.binds]at h3;simp[h3]
    obtain⟨d4,d14,d15⟩:=hd;have v4:us 57=.slice va fs.length vc:=hv 4 (by decide) d4 (fun q=>absurd q (by decide));obtain⟨b,x,a0,n0,c0,a1,n1,c1,a2,n2,c2,v15,b15,r15,f15⟩:∃ b,∃ x:Fu,∃ a0 n0 c0 a1 n1 c1 a2 n2 c2,us 68=.slice (some ⟨b,0,none⟩) 1 1∧Lb c g6 w6 b [.slice a0 n0 c0,.slice a1 n1 c1,.int .i64 x.rk,.int .i64 x.rn,.slice a2 n2 c2]∧RdD (mask g6 w6) x.dat [.slice a0 n0 c0,.slice a1 n1 c1,.int .i64 x.rk,.int .i64 x.rn,.slice a2 n2 c2]∧FsOk (fs++[x]):=hv 15 (by decide) d15 (fun q=>absurd q (by decide));obtain⟨xf,f1,f2⟩:=hgs.fs;rw[ev,es]at f1;rw[es]at f2;have c14:l.getD 5 false=true∧l.getD 7 false=true∧l.getD 13 false=true:=by have q:=hclo 14 d14;simp[Region.binds]at q;simp[q]
    have c13:l.getD 12 false=true:=by have q:=hclo 13 c14.2.2;simpa[Region.binds] using q
    have c12:l.getD 8 false=true∧l.getD 11 false=true:=by have q:=hclo 12 c13;simp[Region.binds]at q;simp[q]
    have c11:l.getD 10 false=true:=by have q:=hclo 11 c12.2;simpa[Region.binds] using q
    have c10:l.getD 9 false=true:=by have q:=hclo 10 c11;simpa[Region.binds] using q
    have c7:l.getD 6 false=true:=by have q:=hclo 7 c14.2.1;simpa[Region.binds] using q
    have c4:l.getD 3 false=true:=by have q:=hclo 4 d4;simpa[Region.binds] using q
    have c3:l.getD 2 false=true:=by have q:=hclo 3 c4;simpa[Region.binds] using q
    have y1:l.getD 1 false=true:=by have q:=hclo 2 c3;simpa[Region.binds] using q
    have h0v:l.getD 0 false=true→us 53=.pointer (some ⟨c.G,0,none⟩):=fun q=>hv 0 (by decide) q (fun z=>absurd z (by decide))
    have hcl:∀ j u,[.slice a0 n0 c0,.slice a1 n1 c1,.int .i64 x.rk,.int .i64 x.rn,.slice a2 n2 c2][j]?=some u→w6.cell? ((⟨b,0,none⟩:Addr).add j)=some u:=fun j u q=>by
     have:=(b15.bx.cell j u q).1;rcases j with _|j
     ·simpa[Addr.add] using this
     ·simpa[Addr.add] using this
    have h17:l.getD 17 false=false:=by
     cases q:l.getD 17 false with
     | false=>rfl
     | true=>exact absurd (by have z:=hclo 17 q;simp[Region.binds]at z;simp[z]:l.getD 16 false=true) (by rw[h16];decide)
    have h18:l.getD 18 false=false:=by
     cases q:l.getD 18 false with
     | false=>rfl
     | true=>exact absurd (by have z:=hclo 18 q;simp[Region.binds]at z;simp[z]:l.getD 16 false=true) (by rw[h16];decide)
    have h19:l.getD 19 false=false:=by
     cases q:l.getD 19 false with
     | false=>rfl
     | true=>exact absurd (by have z:=hclo 19 q;simp[Region.binds]at z;simp[z]:l.getD 16 false=true) (by rw[h16];decide)
    refine zae rfl (.tmp 57) (.tmp 68) 44 rfl (c.G+1) 73 i0 (.agg #[.slice none 0 0,.slice none 0 0,.int .i64 0,.int .i64 0,.slice none 0 0]) 5 88 Tryz.underlyingFu hj0 hy0 hy1 hy2 rfl (by decide) (.slice va fs.length vc) fs.length xf ((by kernel_rfl:({ tmps:=(fr11 c RS z i us).toArray,defers:=[] }:Act).eval (.tmp 57)=us 57).trans v4) f1 ⟨b,0,none⟩ 1 1 [.slice a0 n0 c0,.slice a1 n1 c1,.int .i64 x.rk,.int .i64 x.rn,.slice a2 n2 c2] ((by kernel_rfl:({ tmps:=(fr11 c RS z i us).toArray,defers:=[] }:Act).eval (.tmp 68)=us 68).trans v15) rfl hcl (by simp[Value.oneCell']) (by unfold maxLen;omega) (by omega) hgs.new.2.2 ?_;intro v8 w8 o8 g8 h8;have o8c:=o8;rw[←ev]at f1 g8 h8;rw[←es]at f1 f2 f15 o8;obtain⟨⟨nx8,lf8,hb8⟩,hfin⟩:=Gs.pushF hgs r15 rfl f15 f1 f2 o8 g8 h8;obtain⟨q1,q2⟩:=hb8.cell 2 _ rfl;obtain⟨g9,s9,k9⟩:=hfin _ rfl;obtain⟨a8,c8,hv8⟩:=zac o8c;subst hv8;have hset:∀ j,(l.setIfInBounds 16 true).getD j false=if j=16 then true else l.getD j false:=fun j=>zco (by omega) j
    refine hK _ _ ⟨_,(by kernel_rfl:({ tmps:=(fr11 c RS z i us).toArray,defers:=[] }:Act).put (some 69) (.slice a8 (fs.length+1) c8)=({ tmps:=(fr11 c RS z i (updS us 69 (.slice a8 (fs.length+1) c8))).toArray,defers:=[] }:Act)),.inr (.inl ⟨?_,?_,fun j q1 q2=>?_,fun q=>?_,fun q=>?_,fun q=>?_,a8,fs.length+1,c8,?_,⟨_,q1,q2⟩,g9,_,st.trans s9,k9,?_⟩)⟩
    ·rw[hset,if_pos rfl]
    ·rw[hset,if_neg (by decide)];exact h19
    ·rw[hset,if_neg (by omega)];have hc:j=1∨j=2∨j=3∨j=4∨j=5∨j=6∨j=7∨j=8∨j=9∨j=10∨j=11∨j=12∨j=13∨j=14∨j=15:=by omega
     rcases hc with rfl|rfl|rfl|rfl|rfl|rfl|rfl|rfl|rfl|rfl|rfl|rfl|rfl|rfl|rfl
     ·exact y1
     ·exact c3
     ·exact c4
     ·exact d4
     ·exact c14.1
     ·exact c7
     ·exact c14.2.1
     ·exact c12.1
     ·exact c10
     ·exact c11
     ·exact c12.2
     ·exact c13
     ·exact c14.2.2
     ·exact d14
     ·exact d15
    ·rw[hset,if_neg (by decide)]at q;simpa[updS] using h0v q
    ·rw[hset,if_neg (by decide),h17]at q;cases q
    ·rw[hset,if_neg (by decide),h18]at q;cases q
    ·simp[updS]
    ·simp[es]
   ·exact absurd (by simp[Region.binds]at h3;simp[h3]:l.getD 16 false=true) (by rw[h16];decide)
   ·exact absurd (by simp[Region.binds]at h3;simp[h3]:l.getD 16 false=true) (by rw[h16];decide)
   ·exact absurd (by simp[Region.binds]at h3;simp[h3]:l.getD 16 false=true) (by rw[h16];decide)
  ·have hnn:¬ (1≤n∧n≤16):=fun q=>by
    have:l.getD n false=true:=by
     by_cases e:n=16
     ·rw[e];exact hB.1
     ·exact hB.2.2.1 n q.1 (by omega)
    rw[zdy (by omega),this]at h2
    cases h2
   have hc:n=0∨n=17∨n=18∨n=19:=by omega
   rcases hc with rfl|rfl|rfl|rfl
   ·obtain rfl:=Option.some.inj ho;refine zag rfl _ _ (zdi (v:=.pointer (some ⟨c.G,0,none⟩)) rfl (by kernel_rfl) w6) ?_;exact hK _ _ (hB.put hsz 0 (by decide) _ ⟨fun _=>rfl,fun q=>absurd q (by decide),fun q=>absurd q (by decide)⟩ (by kernel_rfl))
   ·obtain rfl:=Option.some.inj ho;have d0:l.getD 0 false=true:=by simp[Region.binds]at h3;simp[h3]
    refine zag rfl _ _ (ey_nil rfl ((by kernel_rfl:({ tmps:=(fr11 c RS z i us).toArray,defers:=[] }:Act).eval (.tmp 53)=us 53).trans (hB.2.2.2.1 d0)) w6) ?_;exact hK _ _ (hB.put hsz 17 (by decide) _ ⟨fun q=>absurd q (by decide),fun _=>rfl,fun q=>absurd q (by decide)⟩ (by kernel_rfl))
   ·obtain rfl:=Option.some.inj ho;have d17:l.getD 17 false=true:=by simp[Region.binds]at h3;simp[h3]
    refine zag rfl _ _ (ey_field2 rfl ((by kernel_rfl:({ tmps:=(fr11 c RS z i us).toArray,defers:=[] }:Act).eval (.tmp 70)=us 70).trans (hB.2.2.2.2.1 d17)) w6) ?_;exact hK _ _ (hB.put hsz 18 (by decide) _ ⟨fun q=>absurd q (by decide),fun q=>absurd q (by decide),fun _=>rfl⟩ (by kernel_rfl))
   ·have ho:=Option.some.inj ho;have hd:l.getD 18 false=true∧l.getD 0 false=true:=by simp[Region.binds]at h3;simp[h3]
    have d17:l.getD 17 false=true:=by have q:=hclo 18 hd.1;simp[Region.binds]at q;simp[q]
    obtain⟨h16,_,h15,_,_,h71,a8,m8,c8,h69,⟨u8,q1,q2⟩,g9,v9,s9,k9,e9⟩:=hB;have hop:o.op=Op.store 44 (.tmp 71) (.tmp 69):=by rw[←ho];rfl
    refine step_skip (by rw[←ho];rfl) (by rw[←ho];rfl) _ (ey_storeF hop ((by kernel_rfl:({ tmps:=(fr11 c RS z i us).toArray,defers:=[] }:Act).eval (.tmp 71)=us 71).trans (h71 hd.1)) ((by kernel_rfl:({ tmps:=(fr11 c RS z i us).toArray,defers:=[] }:Act).eval (.tmp 69)=us 69).trans h69) q1 q2) (hK _ _ ⟨us,rfl,.inr (.inr ⟨fun j hj=>?_,g9,v9,s9,k9,e9⟩)⟩);rw[zco (by omega)];by_cases e:j=19
    ·rw[if_pos e]
    rw[if_neg e];by_cases e1:j=18
    ·rw[e1];exact hd.1
    by_cases e2:j=17
    ·rw[e2];exact d17
    by_cases e3:j=16
    ·rw[e3];exact h16
    by_cases e4:j=0
    ·rw[e4];exact hd.2
    exact h15 j (by omega) (by omega)
  ·exfalso
   have:=hC.1 n hn20;rw[zdy (by omega),this]at h2
   cases h2
 case hend =>
  rintro l a w6 hsz ⟨us,rfl,hI⟩ h0;have hall:=all_done h0 hsz (by kernel_rfl) 20;rcases hI with hA|hB|hC
  ·have:=hall 16 (by decide) (by decide);rw[hA.1]at this
   cases this
  ·have:=hall 19 (by decide) (by decide);rw[hB.2.1]at this
   cases this
  ·obtain⟨_,g9,v9,s9,k9,e9⟩:=hC;exact HM us g9 w6 v9 s9 k9 e9
def NamesTok (l:List Sc):Prop:=∀ x∈l,(1≤x.name.length∧x.name.length≤1000)∧midB x.name=true
theorem NamesTok.fit {l:List Sc}(h:NamesTok l):NamesFit l:=fun x hx=>(h x hx).1
def TyFine (l:List Sc) (k n:Int):Prop:=0≤k∧k≤6∧(k=3∨k=6→0≤n∧n<l.length)
structure NodeTk (l:List Sc) (k n tk tn:Int) (name:List Int) (m:Nat):Prop where
 tok:k=3∨k=6∨k=7→midB name=true
 two:k=8∨k=10→m=2
 ty:k=5→TyFine l tk tn
inductive Ex.FineI (l:List Sc):Ex→Prop
 | mk {k n tk tn:Int}{name:List Int}{kids:List Ex}(h:NodeOk l k n tk tn name kids.length) (ht:NodeTk l k n tk tn name kids.length) (hs:∀ x∈kids,Ex.FineI l x):Ex.FineI l (.mk k n tk tn name kids)
theorem Ex.FineI.fine {l:List Sc}:∀ {x:Ex},Ex.FineI l x→Ex.Fine l x:=by
 intro x h
 induction h with
 | mk h ht hs ih=>exact .mk h ih
theorem eight {k:Int}(h0:0≤k) (h1:k≤7):k=0∨k=1∨k=2∨k=3∨k=4∨k=5∨k=6∨k=7:=by omega
structure StNodeI (l:List Sc) (k tk tn:Int) (name:List Int) (m:Nat):Prop where
 base:StNode l k tk tn name m
 tok:k=0→midB name=true
 ty:k=0→TyFine l tk tn
 two:k=1→m=2
 few:k=4→m≤1
 one:k=5∨k=6∨k=7→m=1
inductive St.FineI (l:List Sc):St→Prop
 | mk {k n tk tn:Int}{name:List Int}{kids:List Ex}{body els:List St}(h:StNodeI l k tk tn name kids.length) (hm:body.length≤1000000∧els.length≤1000000) (hk:∀ x∈kids,Ex.FineI l x) (hb:∀ x∈body,St.FineI l x) (he:∀ x∈els,St.FineI l x):St.FineI l (.mk k n tk tn name kids body els)
theorem St.FineI.fine {l:List Sc}:∀ {x:St},St.FineI l x→St.Fine l x:=by
 intro x h
 induction h with
 | mk h hm hk hb he ib ie=>exact .mk h.base hm (fun x hx=>(hk x hx).fine) ib ie
structure PaFineI (l:List Sc) (x:Pa):Prop where
 nm:1≤x.name.length
 tok:midB x.name=true
 ty:TyFine l x.tk x.tn
theorem PaFineI.fine {l:List Sc}{x:Pa}(h:PaFineI l x):PaFine l x:=⟨h.nm,h.ty.2.2⟩
structure FuFineI (l:List Sc) (x:Fu):Prop where
 nm:1≤x.name.length
 tok:midB x.name=true
 ps:∀ p∈x.params,PaFineI l p
 few:x.params.length≤1000
 ty:TyFine l x.rk x.rn
 few2:x.body.length≤1000000
 body:∀ s∈x.body,St.FineI l s
theorem FuFineI.fine {l:List Sc}{x:Fu}(h:FuFineI l x):FuFine l x:=⟨h.nm,fun p hp=>(h.ps p hp).fine,h.few,h.ty.2.2,h.few2,fun s hs=>(h.body s hs).fine⟩
end Go.Proofs.YtgholpilmdebmaaGreatDoor
