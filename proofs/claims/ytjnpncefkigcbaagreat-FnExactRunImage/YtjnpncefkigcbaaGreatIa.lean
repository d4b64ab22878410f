import Derived.Test.YtjnpncefkigcbaaGreatHy
import Derived.Test.YtjnpncefkigcbaaGreatHz
import Derived.Defers
import Derived.Recover
set_option maxHeartbeats 100000000
set_option maxRecDepth 100000
namespace Go.Proofs.YtjnpncefkigcbaaGreat
open Go.RowKit Go.Lib Go.Maps
theorem ioutc_any {C:Cx}{w:World}{s:Vm}{e:Nat}{cp iv rv:Value}{oa:Option Addr}{on oc:Nat}(h:Pv C w s e cp iv (.slice oa on oc) rv) (ea ec:Int) :
  Calls Tryz.prog 64 #[.pointer (some ⟨C.P,0,none⟩),.agg #[.int .i64 ea,.int .i64 ec]] w fun n w'=>n=.returned (.agg #[.int .i64 ea,.int .i64 ec,.slice oa on oc,.int .i64 (s.steps:Int)])∧Later w w':=by
 obtain⟨c2,_⟩:=h.c2;obtain⟨c3,_⟩:=h.c3;have hlt:=h.box.lt;have hP:¬ C.P=w.heap.size:=by omega
 have hP2:¬ C.P=w.heap.size+1:=by omega
 have HZ:Hid (∀ w',Later w w'→(fun n w'=>n=Ending.returned (.agg #[.int .i64 ea,.int .i64 ec,.slice oa on oc,.int .i64 (s.steps:Int)])∧Later w w') (.returned (.agg #[.int .i64 ea,.int .i64 ec,.slice oa on oc,.int .i64 (s.steps:Int)])) w'):=fun w' l=>⟨rfl,l⟩
 generalize (fun n w'=>n=Ending.returned (.agg #[.int .i64 ea,.int .i64 ec,.slice oa on oc,.int .i64 (s.steps:Int)])∧Later w w')=Q at *
 clear h;go_enter Tryz.func64,Tryz.ntmps64;go_wp2_with fail
 go_region
 go_wp2_with fail
 exact bodyPost_ret (v:=.agg #[.int .i64 ea,.int .i64 ec,.slice oa on oc,.int .i64 (s.steps:Int)]) (by simp[results,Tryz.results64,go_sem]) rfl (HZ.out _ ((later_a _ _).trans (later_ad _ _)))
theorem ta_fin (a c:Int) (w:World):(Instr.typeAssert (.iface 118 (.agg #[.int .i64 a,.int .i64 c])) 20 118 true).run Tryz.prog w=.ok (.tuple #[.agg #[.int .i64 a,.int .i64 c],.bool true]) w:=by kernel_rfl
theorem tmps213 (a b:Value):(#[a,b]++Array.replicate 11 undef:Array Value)=#[a,b,undef,undef,undef,undef,undef,undef,undef,undef,undef,undef,undef]:=rfl
def put4 (w:World) (b:Nat) (v0 v1 v2 v3:Value):World:=(((w.setCell ⟨b,0,none⟩ v0).setCell ⟨b,1,none⟩ v1).setCell ⟨b,2,none⟩ v2).setCell ⟨b,3,none⟩ v3
theorem put4_cells {w:World}{b:Nat}(v0 v1 v2 v3:Value) (h:∀ k,k<4→∃ u,w.cell? ⟨b,k,none⟩=some u):(put4 w b v0 v1 v2 v3).cell? ⟨b,0,none⟩=some v0∧(put4 w b v0 v1 v2 v3).cell? ⟨b,1,none⟩=some v1∧(put4 w b v0 v1 v2 v3).cell? ⟨b,2,none⟩=some v2∧(put4 w b v0 v1 v2 v3).cell? ⟨b,3,none⟩=some v3:=by
 obtain⟨u0,h0⟩:=h 0 (by decide);obtain⟨u1,h1⟩:=h 1 (by decide);obtain⟨u2,h2⟩:=h 2 (by decide);obtain⟨u3,h3⟩:=h 3 (by decide);unfold put4;refine⟨?_,?_,?_,?_⟩
 ·rw[set_off _ _ _ (by decide),set_off _ _ _ (by decide),set_off _ _ _ (by decide)];exact set_same h0
 ·rw[set_off _ _ _ (by decide),set_off _ _ _ (by decide)];exact set_same (by rw[set_off _ _ _ (by decide)];exact h1)
 ·rw[set_off _ _ _ (by decide)];exact set_same (by rw[set_off _ _ _ (by decide),set_off _ _ _ (by decide)];exact h2)
 ·exact set_same (by rw[set_off _ _ _ (by decide),set_off _ _ _ (by decide),set_off _ _ _ (by decide)];exact h3)
theorem catch_fin {P bw bo:Nat}{ea ec st:Int}{oa:Option Addr}{on oc:Nat}{w:World}(R:World→Prop)
  (HO:∀ w',Later w w'→Calls Tryz.prog 64 #[.pointer (some ⟨P,0,none⟩),.agg #[.int .i64 ea,.int .i64 ec]] w' fun n w''=>n=.returned (.agg #[.int .i64 ea,.int .i64 ec,.slice oa on oc,.int .i64 st])∧Later w' w'')
  (hw:∀ w',Later w w'→w'.cell? ⟨bw,0,none⟩=some (.pointer (some ⟨P,0,none⟩)))
  (hb:∀ w',Later w w'→∀ k,k<4→(∃ u,w'.cell? ⟨bo,k,none⟩=some u)∧w'.frozen? ⟨bo,k,none⟩=false)
  (hbw:bw<w.heap.size) (HR:∀ w',Later w w'→R (put4 w' bo (.int .i64 ea) (.int .i64 ec) (.slice oa on oc) (.int .i64 st))) :
  CallsD Tryz.prog 63 #[.pointer (some ⟨bw,0,none⟩),.pointer (some ⟨bo,0,none⟩)] (.panicking [{ v:=.iface 118 (.agg #[.int .i64 ea,.int .i64 ec]),recovered:=false }]) w fun n u' w' =>
   n=.returned (.tuple #[])∧u'=.panicking [{ v:=.iface 118 (.agg #[.int .i64 ea,.int .i64 ec]),recovered:=true }]∧R w':=by
 refine callsD_of_wpS Tryz.func63 rfl fun c₀ cs hu=>?_
 apply wpS_seq
 apply wpS_region
 simp[wpOpsS,go_sem,recoverD,hu,Tryz.ntmps63,Exit.thenS,ta_fin,tmps213]
 apply wpS_seq
 apply wpS_region
 simp[wpOpsS,go_sem,Exit.thenS];refine wpS_cond (t:=true) (by simp[Act.eval]) ?_;simp only[if_true];refine wpS_of_wp ?_;have hw0:=hw w (Later.refl _);have hbw':¬ bw=w.heap.size:=by omega
 have HO':Hid (∀ w',Later w w'→Calls Tryz.prog 64 #[.pointer (some ⟨P,0,none⟩),.agg #[.int .i64 ea,.int .i64 ec]] w' fun n w''=>n=.returned (.agg #[.int .i64 ea,.int .i64 ec,.slice oa on oc,.int .i64 st])∧Later w' w''):=HO;have hb':Hid (∀ w',Later w w'→∀ k,k<4→(∃ u,w'.cell? ⟨bo,k,none⟩=some u)∧w'.frozen? ⟨bo,k,none⟩=false):=hb;have HR':Hid (∀ w',Later w w'→R (put4 w' bo (.int .i64 ea) (.int .i64 ec) (.slice oa on oc) (.int .i64 st))):=HR;clear HO hw hb HR hu;go_wp2_with fail
 refine (HO'.out _ (later_a _ _)).mono ?_;rintro n w2 ⟨rfl,l2⟩;have l2':=(later_a w _).trans l2;obtain⟨⟨u0,f0⟩,z0⟩:=hb'.out w2 l2' 0 (by decide);obtain⟨⟨u1,f1⟩,z1⟩:=hb'.out w2 l2' 1 (by decide);obtain⟨⟨u2,f2⟩,z2⟩:=hb'.out w2 l2' 2 (by decide);obtain⟨⟨u3,f3⟩,z3⟩:=hb'.out w2 l2' 3 (by decide);have HP:=HR'.out w2 l2';unfold put4 at HP;clear HR' hb' HO' hw0;go_wp2_with fail
 simp[bodyPostS,results,Tryz.results63];exact HP
def OutQ (C:Cx) (R:Int × Int × Vm) (n:Ending) (w':World):Prop:=∃ oa on oc,n=.returned (.agg #[.int .i64 R.1,.int .i64 R.2.1,.slice oa on oc,.int .i64 (R.2.2.steps:Int)])∧∃ t e cp iv rv,Pv C w' t e cp iv (.slice oa on oc) rv∧t.out=R.2.2.out∧t.steps=R.2.2.steps∧t.moves=R.2.2.moves∧t.copies=R.2.2.copies
theorem ioutof_any {C:Cx}(hC:CxI C) (hk:∀ b,¬ C.kb b) {R:Int × Int × Vm}{w:World}(hsz:C.P<w.heap.size∧C.WB<w.heap.size∧C.PB<w.heap.size)
  (HRun:∀ (kb:Nat→Prop) (kw w':World),Later w w'→(∀ b,kb b→w.heap.size≤b∧b<w'.heap.size∧w'.heap[b]?=kw.heap[b]?)→Calls Tryz.prog 32 #[.pointer (some ⟨C.P,0,none⟩)] w' (RunQ { C with kb:=kb,kw:=kw } R)) :
  Calls Tryz.prog 31 #[.pointer (some ⟨C.P,0,none⟩),.func (.func 32) #[.pointer (some ⟨C.P,0,none⟩)] #[]] w (OutQ C R):=by
 obtain⟨wA,hwA⟩:=hidx (w.alloc (Obj.cells #[.pointer (some ⟨C.P,0,none⟩)] 116));obtain⟨wB,hwB⟩:=hidx (wA.alloc (Obj.cells #[.int .i64 0,.int .i64 0,.slice none 0 0,.int .i64 0] 70));have sA:wA.heap.size=w.heap.size+1:=by rw[hwA.out];simp
 have sB:wB.heap.size=w.heap.size+1+1:=by rw[hwB.out];simp[sA]
 have lA:Later w wA:=by rw[hwA.out];exact later_a _ _
 have lB:Later wA wB:=by rw[hwB.out];exact later_a _ _
 have HR:=HRun (fun b=>b=w.heap.size∨b=w.heap.size+1) wB wB (lA.trans lB) (fun b hb=>by rcases hb with rfl|rfl <;> exact⟨by omega,by omega,rfl⟩);have HRh:Hid (Calls Tryz.prog 32 #[.pointer (some ⟨C.P,0,none⟩)] wB (RunQ { C with kb:=fun b=>b=w.heap.size∨b=w.heap.size+1,kw:=wB } R)):=HR
 have cA:wB.cell? ⟨w.heap.size,0,none⟩=some (.pointer (some ⟨C.P,0,none⟩)):=by
  rw[Below.cell lB (p:=⟨w.heap.size,0,none⟩) (by show w.heap.size<wA.heap.size;omega),hwA.out];exact box_at' w _ rfl
 have cB:∀ k v,(#[.int .i64 0,.int .i64 0,.slice none 0 0,.int .i64 0]:Array Value)[k]?=some v→wB.cell? ⟨w.heap.size+1,k,none⟩=some v∧wB.frozen? ⟨w.heap.size+1,k,none⟩=false:=fun k v hv=>by
  rw[←sA,hwB.out];exact⟨box_at' wA _ hv,by simp⟩
 have HE:Hid (∀ n w3,RunQ { C with kb:=fun b=>b=w.heap.size∨b=w.heap.size+1,kw:=wB } R n w3→n=.panicked [{ v:=.iface 118 (.agg #[.int .i64 R.1,.int .i64 R.2.1]),recovered:=false }]∧∃ oa on oc,(∀ w',Later w3 w'→Calls Tryz.prog 64 #[.pointer (some ⟨C.P,0,none⟩),.agg #[.int .i64 R.1,.int .i64 R.2.1]] w' fun n w''=>n=.returned (.agg #[.int .i64 R.1,.int .i64 R.2.1,.slice oa on oc,.int .i64 (R.2.2.steps:Int)])∧Later w' w'')∧(∀ w',Later w3 w'→w'.cell? ⟨w.heap.size,0,none⟩=some (.pointer (some ⟨C.P,0,none⟩)))∧(∀ w',Later w3 w'→∀ k,k<4→(∃ u,w'.cell? ⟨w.heap.size+1,k,none⟩=some u)∧w'.frozen? ⟨w.heap.size+1,k,none⟩=false)∧w.heap.size<w3.heap.size∧w.heap.size+1<w3.heap.size∧(∀ w',Later w3 w'→OutQ C R (.returned (.agg #[.int .i64 R.1,.int .i64 R.2.1,.slice oa on oc,.int .i64 (R.2.2.steps:Int)])) (put4 w' (w.heap.size+1) (.int .i64 R.1) (.int .i64 R.2.1) (.slice oa on oc) (.int .i64 (R.2.2.steps:Int))))):=fun n w3 hq=>by
  obtain⟨ov,rfl,t,e,cp,iv,rv,p,t1,t2,t3,t4⟩:=hq;obtain⟨oa,oc,rfl⟩:=row_form p.op;have k0:=p.kp w.heap.size (.inl rfl);have k1:=p.kp (w.heap.size+1) (.inr rfl);refine⟨rfl,oa,t.out.length,oc,fun w' l=>?_,fun w' l=>?_,fun w' l k hk4=>?_,k0.1,k1.1,fun w' l=>⟨oa,t.out.length,oc,rfl,t,e,cp,iv,rv,?_,t1,t2,t3,t4⟩⟩
  ·have:=ioutc_any (p.kept l) R.1 R.2.1;rw[t2]at this;exact this
  ·rw[Below.cell l (p:=⟨w.heap.size,0,none⟩) k0.1,World.cell?_of_block (w:=wB) (w':=w3) (a:=⟨w.heap.size,0,none⟩) k0.2];exact cA
  ·have hb:w'.heap[w.heap.size+1]?=wB.heap[w.heap.size+1]?:=(l.block _ k1.1).trans k1.2;rw[World.cell?_of_block (w:=wB) (w':=w') (a:=⟨w.heap.size+1,k,none⟩) hb,World.frozen?_of_block (w:=wB) (w':=w') (a:=⟨w.heap.size+1,k,none⟩) hb]
   match k,hk4 with
   | 0,_=>exact⟨⟨_,(cB 0 _ rfl).1⟩,(cB 0 _ rfl).2⟩
   | 1,_=>exact⟨⟨_,(cB 1 _ rfl).1⟩,(cB 1 _ rfl).2⟩
   | 2,_=>exact⟨⟨_,(cB 2 _ rfl).1⟩,(cB 2 _ rfl).2⟩
   | 3,_=>exact⟨⟨_,(cB 3 _ rfl).1⟩,(cB 3 _ rfl).2⟩
   | k+4,hh=>omega
  ·have p2:=p.kept l;have hne:∀ b,(Value.slice oa t.out.length oc).ownBlock=some b→b≠w.heap.size+1:=fun b hb q=>p.ok b hb (.inr q);have hz:(put4 w' (w.heap.size+1) (.int .i64 R.1) (.int .i64 R.2.1) (.slice oa t.out.length oc) (.int .i64 (R.2.2.steps:Int))).heap.size=w'.heap.size:=by unfold put4;simp
   have hfar:∀ b,b≠w.heap.size+1→(put4 w' (w.heap.size+1) (.int .i64 R.1) (.int .i64 R.2.1) (.slice oa t.out.length oc) (.int .i64 (R.2.2.steps:Int))).heap[b]?=w'.heap[b]?:=fun b hb=>by
    unfold put4;rw[Below.heap_setCell _ _ _ _ hb,Below.heap_setCell _ _ _ _ hb,Below.heap_setCell _ _ _ _ hb,Below.heap_setCell _ _ _ _ hb]
   have hw0:C.w0.heap.size≤C.P:=hC.p1;exact⟨⟨p2.lat.os,p2.lat.tape,p2.lat.output,by rw[hz];exact p2.lat.size,fun b hb=>(hfar b (by omega)).trans (p2.lat.block b hb)⟩,p2.box.kept (Nat.le_of_eq hz.symm) (hfar _ (by show C.P≠_;omega)),p2.ip,p2.rp,own_kept p2.op (fun b hb=>hfar b (hne b hb)),p2.on,p2.wd.kept (Nat.le_of_eq hz.symm) (hfar _ (by show C.WB≠_;omega)),p2.pp.kept (Nat.le_of_eq hz.symm) (hfar _ (by show C.PB≠_;omega)),fun b hb=>(hk b hb).elim,fun b _=>hk b⟩
 generalize RunQ { C with kb:=fun b=>b=w.heap.size∨b=w.heap.size+1,kw:=wB } R=RQ at *
 generalize OutQ C R=Q at *
 clear HR HRun cA cB sB lA lB hk hC hsz;rw[hwA.out]at hwB;go_enter_defers Tryz.func31,Tryz.ntmps31;go_wp2_with fail
 rw[←hwB.out];refine HRh.out.mono ?_;intro n3 w3 hq3;obtain⟨rfl,oa,on,oc,g1,g2,g3,g4,g5,g6⟩:=HE.out n3 w3 hq3;clear HE HRh;go_wp2_with fail
 refine leaves_cons (f:=63) (args:=#[.pointer (some ⟨w.heap.size,0,none⟩),.pointer (some ⟨w.heap.size+1,0,none⟩)]) (by simp) (by simp[go_sem]) ?_;refine (catch_fin (fun W=>∃ w',Later w3 w'∧W=put4 w' (w.heap.size+1) (.int .i64 R.1) (.int .i64 R.2.1) (.slice oa on oc) (.int .i64 (R.2.2.steps:Int))) g1 g2 g3 g4 (fun w' l=>⟨w',l,rfl⟩)).mono ?_;rintro e u' W ⟨rfl,rfl,w',l,rfl⟩;obtain⟨m0,m1,m2,m3⟩:=put4_cells (b:=w.heap.size+1) (.int .i64 R.1) (.int .i64 R.2.1) (.slice oa on oc) (.int .i64 (R.2.2.steps:Int)) (fun k hk=>(g3 w' l k hk).1);exact⟨.agg #[.int .i64 R.1,.int .i64 R.2.1,.slice oa on oc,.int .i64 (R.2.2.steps:Int)],by simp[results,Tryz.results31,go_sem,m0,m1,m2,m3],g6 w' l⟩
def resV (R:Int × Int × Vm) (o:Value):Value:=.agg #[.int .i64 R.1,.int .i64 R.2.1,o,.int .i64 (R.2.2.steps:Int),.int .i64 (R.2.2.moves:Int),.int .i64 (R.2.2.copies:Int)]
def RunP (x:Im) (e:Se) (w:World) (n:Ending) (w':World):Prop :=
 if imB x=true∧seB e=true then ∃ oa on oc,n=.returned (resV (runI x e) (.slice oa on oc))∧w'.ownsRow w.heap.size 125 2 (.slice oa on oc) (runI x e).2.2.out.length (itemsL (runI x e).2.2.out)∧Later w w'
 else n=.returned (.agg #[.int .i64 0,.int .i64 0,.slice none 0 0,.int .i64 0,.int .i64 0,.int .i64 0])∧Later w w'
theorem row_base {w:World}{b B k n:Nat}{t:TypeId}{v:Value}{xs:List Value}(h:w.ownsRow B t k v n xs) (hb:b≤B):w.ownsRow b t k v n xs:=by
 refine⟨h.1,?_⟩;rcases h.2 with e|⟨g,cap,cur,rfl,h1,h2⟩
 ·exact .inl e
 ·exact .inr ⟨g,cap,cur,rfl,Nat.le_trans hb h1,h2⟩
theorem seB_rg {e:Se}(h:seB e=true):8≤e.half∧e.half≤4000∧16≤e.stack∧e.stack≤2000∧0≤e.fuel∧e.fuel≤200000∧e.input.length≤2000∧e.oracle.length≤2000:=by
 unfold seB inB mrB at h;simp only[Bool.and_eq_true,decide_eq_true_eq]at h;omega
theorem run_held {C:Cx}(hC:CxI C) {x:Im}{e:Se}(hx:C.x=x) (hs:seB e=true) (hH:C.H=e.half.toNat) (hF:C.fuel=e.fuel.toNat) {w:World}{iv rv:Value}(h:Pv C w (zeroV e) 1 (.pointer none) iv (.slice none 0 0) rv) (kb:Nat→Prop) (kw w':World) (l:Later w w') (hk:∀ b,kb b→w.heap.size≤b∧b<w'.heap.size∧w'.heap[b]?=kw.heap[b]?) :
  Calls Tryz.prog 32 #[.pointer (some ⟨C.P,0,none⟩)] w' (RunQ { C with kb:=kb,kw:=kw } (runI x e)):=by
 subst hx;have h1:=h.box.lt;have h2:=h.wd.lt;have h3:=h.pp.lt;have hr:=seB_rg hs
 have hC':CxI { C with kb:=kb,kw:=kw }:=⟨hC.xi,hC.h8,hC.h4,hC.p1,hC.p2,hC.p3,hC.d1,hC.d2,hC.d3,hC.fu,hC.hN,hC.hM,hC.st,hC.cd,fun q=>by have:=(hk _ q).1;exact absurd h1 (by show ¬ C.P<_;exact Nat.not_lt.2 this),fun q=>by have:=(hk _ q).1;exact absurd h2 (by show ¬ C.WB<_;exact Nat.not_lt.2 this),fun q=>by have:=(hk _ q).1;exact absurd h3 (by show ¬ C.PB<_;exact Nat.not_lt.2 this)⟩
 have p:=h.kept l
 have p':Pv { C with kb:=kb,kw:=kw } w' (zeroV e) 1 (.pointer none) iv (.slice none 0 0) rv:=⟨p.lat,p.box,p.ip,p.rp,p.op,p.on,p.wd,p.pp,fun b hb=>⟨(hk b hb).2.1,(hk b hb).2.2⟩,fun b hb=>by cases hb⟩
 exact irun_any hC' (fun q=>imove_any hC' q) (e:=e) (by omega) (by omega) hH hF p'
def put6 (w:World) (b:Nat) (v0 v1 v2 v3 v4 v5:Value):World:=(((((w.setCell ⟨b,0,none⟩ v0).setCell ⟨b,1,none⟩ v1).setCell ⟨b,2,none⟩ v2).setCell ⟨b,3,none⟩ v3).setCell ⟨b,4,none⟩ v4).setCell ⟨b,5,none⟩ v5
theorem put6_cells {w:World}{b:Nat}(v0 v1 v2 v3 v4 v5:Value) (h:∀ k,k<6→∃ u,w.cell? ⟨b,k,none⟩=some u):(put6 w b v0 v1 v2 v3 v4 v5).cell? ⟨b,0,none⟩=some v0∧(put6 w b v0 v1 v2 v3 v4 v5).cell? ⟨b,1,none⟩=some v1∧(put6 w b v0 v1 v2 v3 v4 v5).cell? ⟨b,2,none⟩=some v2∧(put6 w b v0 v1 v2 v3 v4 v5).cell? ⟨b,3,none⟩=some v3∧(put6 w b v0 v1 v2 v3 v4 v5).cell? ⟨b,4,none⟩=some v4∧(put6 w b v0 v1 v2 v3 v4 v5).cell? ⟨b,5,none⟩=some v5:=by
 obtain⟨u0,h0⟩:=h 0 (by decide);obtain⟨u1,h1⟩:=h 1 (by decide);obtain⟨u2,h2⟩:=h 2 (by decide);obtain⟨u3,h3⟩:=h 3 (by decide);obtain⟨u4,h4⟩:=h 4 (by decide);obtain⟨u5,h5⟩:=h 5 (by decide);unfold put6;refine⟨?_,?_,?_,?_,?_,?_⟩
 ·rw[set_off _ _ _ (by decide),set_off _ _ _ (by decide),set_off _ _ _ (by decide),set_off _ _ _ (by decide),set_off _ _ _ (by decide)];exact set_same (by exact h0)
 ·rw[set_off _ _ _ (by decide),set_off _ _ _ (by decide),set_off _ _ _ (by decide),set_off _ _ _ (by decide)];exact set_same (by rw[set_off _ _ _ (by decide)];exact h1)
 ·rw[set_off _ _ _ (by decide),set_off _ _ _ (by decide),set_off _ _ _ (by decide)];exact set_same (by rw[set_off _ _ _ (by decide),set_off _ _ _ (by decide)];exact h2)
 ·rw[set_off _ _ _ (by decide),set_off _ _ _ (by decide)];exact set_same (by rw[set_off _ _ _ (by decide),set_off _ _ _ (by decide),set_off _ _ _ (by decide)];exact h3)
 ·rw[set_off _ _ _ (by decide)];exact set_same (by rw[set_off _ _ _ (by decide),set_off _ _ _ (by decide),set_off _ _ _ (by decide),set_off _ _ _ (by decide)];exact h4)
 ·exact set_same (by rw[set_off _ _ _ (by decide),set_off _ _ _ (by decide),set_off _ _ _ (by decide),set_off _ _ _ (by decide),set_off _ _ _ (by decide)];exact h5)
theorem put6_far {w:World}{b c:Nat}(v0 v1 v2 v3 v4 v5:Value) (h:c≠b):(put6 w b v0 v1 v2 v3 v4 v5).heap[c]?=w.heap[c]?:=by
 unfold put6;rw[Below.heap_setCell _ _ _ _ h,Below.heap_setCell _ _ _ _ h,Below.heap_setCell _ _ _ _ h,Below.heap_setCell _ _ _ _ h,Below.heap_setCell _ _ _ _ h,Below.heap_setCell _ _ _ _ h]
theorem put6_size {w:World}{b:Nat}(v0 v1 v2 v3 v4 v5:Value):(put6 w b v0 v1 v2 v3 v4 v5).heap.size=w.heap.size:=by unfold put6;simp
theorem put6_later {a w:World}{b:Nat}(v0 v1 v2 v3 v4 v5:Value) (h:Later a w) (hb:a.heap.size≤b):Later a (put6 w b v0 v1 v2 v3 v4 v5):=by
 unfold put6;exact (((((h.setNew hb _ _).setNew hb _ _).setNew hb _ _).setNew hb _ _).setNew hb _ _).setNew hb _ _
theorem irunim_any {x:Im}{e:Se}{w:World}{sv cv iv rv:Value}(hsz:x.sz≤1048576) (r1:RdL w 1 sv (Bs.dats x.structs)) (r2:RdL w 4 cv (Cd.dats x.codes)) (r3:RdL w 1 iv (In.dats e.input)) (r4:RdL w 1 rv (In.dats e.oracle)) :
  Calls Tryz.prog 9 #[.agg #[sv,cv,.int .i64 x.main],.agg #[.int .i64 e.half,.int .i64 e.stack,iv,.int .i64 e.fuel,rv]] w (RunP x e w):=by
 obtain⟨ia0,ic0,rfl,_⟩:=In.slice r3;obtain⟨ra0,rc0,rfl,_⟩:=In.slice r4;obtain⟨sa0,sc0,rfl,_⟩:=Bs.slice r1;obtain⟨ca0,cc0,rfl,_⟩:=Cd.slice r2;obtain⟨wI,hwI⟩:=hidx (w.alloc (Obj.cells #[.slice sa0 x.structs.length sc0,.slice ca0 x.codes.length cc0,.int .i64 x.main] 37));obtain⟨wS,hwS⟩:=hidx (wI.alloc (Obj.cells #[.int .i64 e.half,.int .i64 e.stack,.slice ia0 e.input.length ic0,.int .i64 e.fuel,.slice ra0 e.oracle.length rc0] 39));obtain⟨wB,hwB⟩:=hidx (wS.alloc (Obj.cells #[.int .i64 0,.int .i64 0,.slice none 0 0,.int .i64 0,.int .i64 0,.int .i64 0] 33));have sI:wI.heap.size=w.heap.size+1:=by rw[hwI.out];simp
 have sS:wS.heap.size=w.heap.size+1+1:=by rw[hwS.out];simp[sI]
 have lI:Later w wI:=by rw[hwI.out];exact later_a _ _
 have lS:Later wI wS:=by rw[hwS.out];exact later_a _ _
 have lB:Later wS wB:=by rw[hwB.out];exact later_a _ _
 have sB:wB.heap.size=w.heap.size+1+1+1:=by rw[hwB.out];simp[sS]
 have HI:Hid (∀ w',Later wB w'→w'.cell? ⟨w.heap.size,0,none⟩=some (.slice sa0 x.structs.length sc0)∧w'.cell? ⟨w.heap.size,1,none⟩=some (.slice ca0 x.codes.length cc0)∧w'.cell? ⟨w.heap.size,2,none⟩=some (.int .i64 x.main)):=fun w' l=>by
  have hc:∀ k v,(#[.slice sa0 x.structs.length sc0,.slice ca0 x.codes.length cc0,.int .i64 x.main]:Array Value)[k]?=some v→w'.cell? ⟨w.heap.size,k,none⟩=some v:=fun k v hv=>by
   rw[Below.cell (lS.trans (lB.trans l)) (p:=⟨w.heap.size,k,none⟩) (by show w.heap.size<wI.heap.size;omega),hwI.out];exact box_at' w _ hv
  exact⟨hc 0 _ rfl,hc 1 _ rfl,hc 2 _ rfl⟩
 have HS:Hid (∀ w',Later wB w'→w'.cell? ⟨w.heap.size+1,0,none⟩=some (.int .i64 e.half)∧w'.cell? ⟨w.heap.size+1,1,none⟩=some (.int .i64 e.stack)∧w'.cell? ⟨w.heap.size+1,2,none⟩=some (.slice ia0 e.input.length ic0)∧w'.cell? ⟨w.heap.size+1,3,none⟩=some (.int .i64 e.fuel)∧w'.cell? ⟨w.heap.size+1,4,none⟩=some (.slice ra0 e.oracle.length rc0)):=fun w' l=>by
  have hc:∀ k v,(#[.int .i64 e.half,.int .i64 e.stack,.slice ia0 e.input.length ic0,.int .i64 e.fuel,.slice ra0 e.oracle.length rc0]:Array Value)[k]?=some v→w'.cell? ⟨w.heap.size+1,k,none⟩=some v:=fun k v hv=>by
   rw[Below.cell (lB.trans l) (p:=⟨w.heap.size+1,k,none⟩) (by show w.heap.size+1<wS.heap.size;omega),← sI,hwS.out];exact box_at' wI _ hv
  exact⟨hc 0 _ rfl,hc 1 _ rfl,hc 2 _ rfl,hc 3 _ rfl,hc 4 _ rfl⟩
 have HR:Hid (∀ w',Later wB w'→∀ k,k<6→(∃ u,w'.cell? ⟨w.heap.size+1+1,k,none⟩=some u)∧w'.frozen? ⟨w.heap.size+1+1,k,none⟩=false):=fun w' l k hk=>by
  have hc:∀ k v,(#[.int .i64 0,.int .i64 0,.slice none 0 0,.int .i64 0,.int .i64 0,.int .i64 0]:Array Value)[k]?=some v→w'.cell? ⟨w.heap.size+1+1,k,none⟩=some v∧w'.frozen? ⟨w.heap.size+1+1,k,none⟩=false:=fun k v hv=>by
   rw[Below.cell l (p:=⟨w.heap.size+1+1,k,none⟩) (by show w.heap.size+1+1<wB.heap.size;omega),Below.frozen l (p:=⟨w.heap.size+1+1,k,none⟩) (by show w.heap.size+1+1<wB.heap.size;omega),← sS,hwB.out];exact⟨box_at' wS _ hv,by simp⟩
  match k,hk with
  | 0,_=>exact⟨⟨_,(hc 0 _ rfl).1⟩,(hc 0 _ rfl).2⟩
  | 1,_=>exact⟨⟨_,(hc 1 _ rfl).1⟩,(hc 1 _ rfl).2⟩
  | 2,_=>exact⟨⟨_,(hc 2 _ rfl).1⟩,(hc 2 _ rfl).2⟩
  | 3,_=>exact⟨⟨_,(hc 3 _ rfl).1⟩,(hc 3 _ rfl).2⟩
  | 4,_=>exact⟨⟨_,(hc 4 _ rfl).1⟩,(hc 4 _ rfl).2⟩
  | 5,_=>exact⟨⟨_,(hc 5 _ rfl).1⟩,(hc 5 _ rfl).2⟩
  | k+6,hh=>omega
 have lw:Later w wB:=lI.trans (lS.trans lB);have HOk:Hid (∀ w',Later w w'→Calls Tryz.prog 28 #[.agg #[.slice sa0 x.structs.length sc0,.slice ca0 x.codes.length cc0,.int .i64 x.main]] w' fun n w''=>n=.returned (.bool (imB x))∧Later w' w''):=fun w' l=>iimok_b x _ _ w' (RdL.later l r1) (RdL.later l r2) hsz rfl;have HSe:Hid (∀ w',Later w w'→Calls Tryz.prog 29 #[.agg #[.int .i64 e.half,.int .i64 e.stack,.slice ia0 e.input.length ic0,.int .i64 e.fuel,.slice ra0 e.oracle.length rc0]] w' fun n w''=>n=.returned (.bool (seB e))∧Later w' w''):=fun w' l=>isetup_b e _ _ w' (RdL.later l r3) (RdL.later l r4) rfl;have hwBB:Hid (wB=((w.alloc (Obj.cells #[.slice sa0 x.structs.length sc0,.slice ca0 x.codes.length cc0,.int .i64 x.main] 37)).alloc (Obj.cells #[.int .i64 e.half,.int .i64 e.stack,.slice ia0 e.input.length ic0,.int .i64 e.fuel,.slice ra0 e.oracle.length rc0] 39)).alloc (Obj.cells #[.int .i64 0,.int .i64 0,.slice none 0 0,.int .i64 0,.int .i64 0,.int .i64 0] 33)):=by show wB=_;rw[hwB.out,hwS.out,hwI.out]
 clear hwB hwS hwI lI lS lB sI sS;by_cases hb:imB x=true∧seB e=true
 ·obtain⟨h1,h2⟩:=hb;have hrg:=seB_rg h2;have hxi:=ImI.of h1;have hnc:0<x.codes.length:=Nat.lt_of_le_of_lt (Nat.zero_le _) hxi.mn;obtain⟨cg,co,_,_,rfl,_⟩:=Cd.elem r2 0 hnc
  obtain⟨H,eH⟩:∃ H:Nat,e.half=(H:Int):=⟨e.half.toNat,by omega⟩
  obtain⟨T,eT⟩:∃ T:Nat,e.stack=(T:Int):=⟨e.stack.toNat,by omega⟩
  obtain⟨F,eF⟩:∃ F:Nat,e.fuel=(F:Int):=⟨e.fuel.toNat,by omega⟩
  have HNew:Hid (∀ w',Later w w'→Calls Tryz.prog 30 #[.agg #[.slice sa0 x.structs.length sc0,.slice (some ⟨cg,co,none⟩) x.codes.length cc0,.int .i64 x.main],.agg #[.int .i64 e.half,.int .i64 e.stack,.slice ia0 e.input.length ic0,.int .i64 e.fuel,.slice ra0 e.oracle.length rc0]] w' (NewQ x e w' (.slice ia0 e.input.length ic0) (.slice ra0 e.oracle.length rc0))):=fun w' l=>by
   have:=inewm_any hxi (e:=e) (w:=w') (H:=H) (T:=T) (F:=F) (N:=12000+2*H) (M:=2*H) (O:=12000+H) (mn:=x.main) (by omega) (by omega) (by omega) eH eT eF rfl rfl rfl rfl rfl (RdL.later l r1) (RdL.later l r2) (RdL.later l r3) (RdL.later l r4);rw[←eH,← eT,← eF]at this;exact this
  have HOut:Hid (∀ w' (C:Cx),CxI C→(∀ b,¬ C.kb b)→C.x=x→C.H=e.half.toNat→C.fuel=e.fuel.toNat→Pv C w' (zeroV e) 1 (.pointer none) (.slice ia0 e.input.length ic0) (.slice none 0 0) (.slice ra0 e.oracle.length rc0)→Calls Tryz.prog 31 #[.pointer (some ⟨C.P,0,none⟩),.func (.func 32) #[.pointer (some ⟨C.P,0,none⟩)] #[]] w' (OutQ C (runI x e))):=fun w' C hC hk hx hH hF p=>ioutof_any hC hk ⟨p.box.lt,p.wd.lt,p.pp.lt⟩ (run_held hC hx h2 hH hF p);have HZ:Hid (∀ W oa on oc,W.ownsRow w.heap.size 125 2 (.slice oa on oc) (runI x e).2.2.out.length (itemsL (runI x e).2.2.out)→Later w W→RunP x e w (.returned (resV (runI x e) (.slice oa on oc))) W):=fun W oa on oc ho l=>by unfold RunP;rw[if_pos ⟨h1,h2⟩];exact⟨oa,on,oc,rfl,ho,l⟩
  generalize RunP x e w=Q at *
  rw[h1]at HOk;rw[h2]at HSe;obtain⟨i0,i1,i2⟩:=HI.out wB (Later.refl _);clear r1 r2 r3 r4 eH eT eF h1 h2 hrg hxi
  generalize runI x e=R at *
  go_enter Tryz.func9,Tryz.ntmps9;go_wp2_with fail
  rw[←hwBB.out];refine (HOk.out wB lw).mono ?_;rintro n2 w2 ⟨rfl,l2⟩;obtain⟨j0,j1,j2,j3,j4⟩:=HS.out w2 l2;clear i0 i1 i2;go_wp2_with fail
  refine (HSe.out w2 (lw.trans l2)).mono ?_;rintro n3 w3 ⟨rfl,l3⟩;have l23:=l2.trans l3;obtain⟨i0,i1,i2⟩:=HI.out w3 l23;clear j0 j1 j2 j3 j4;obtain⟨j0,j1,j2,j3,j4⟩:=HS.out w3 l23;go_wp2_with fail
  refine (HNew.out w3 (lw.trans l23)).mono ?_;rintro n4 w4 ⟨C,hC,hx,hH,hF,hw0,rfl,p4,hlt,hkb⟩;have hO:=HOut.out w4 C hC hkb hx hH hF p4;clear i0 i1 i2 j0 j1 j2 j3 j4 HOk HSe HNew HOut HI HS;go_wp2_with fail
  refine hO.mono ?_;rintro n5 w5 ⟨oa,on,oc,rfl,t,e5,cp5,iv5,rv5,p5,t1,t2,t3,t4⟩;have p6:=p5.kept (later_a w5 (Obj.cells #[.int .i64 R.1,.int .i64 R.2.1,.slice oa on oc,.int .i64 (R.2.2.steps:Int)] 70));have lB6:=l23.trans (by have:=p6.lat;rw[hw0]at this;exact this);obtain⟨w6,hw6⟩:=hidx (w5.alloc (Obj.cells #[.int .i64 R.1,.int .i64 R.2.1,.slice oa on oc,.int .i64 (R.2.2.steps:Int)] 70));rw[←hw6.out]at p6 lB6;obtain⟨c66,_⟩:=p6.c66;obtain⟨c67,_⟩:=p6.c67;rw[t3]at c66;rw[t4]at c67;have hbk:∀ k v,(#[.int .i64 R.1,.int .i64 R.2.1,.slice oa on oc,.int .i64 (R.2.2.steps:Int)]:Array Value)[k]?=some v→w6.cell? ⟨w5.heap.size,k,none⟩=some v:=fun k v hv=>by rw[hw6.out];exact box_at' w5 _ hv
  have b0:=hbk 0 _ rfl;have b1:=hbk 1 _ rfl;have b2:=hbk 2 _ rfl;have b3:=hbk 3 _ rfl;obtain⟨⟨uu0,ff0⟩,zz0⟩:=HR.out w6 lB6 0 (by decide);obtain⟨⟨uu1,ff1⟩,zz1⟩:=HR.out w6 lB6 1 (by decide);obtain⟨⟨uu2,ff2⟩,zz2⟩:=HR.out w6 lB6 2 (by decide);obtain⟨⟨uu3,ff3⟩,zz3⟩:=HR.out w6 lB6 3 (by decide);obtain⟨⟨uu4,ff4⟩,zz4⟩:=HR.out w6 lB6 4 (by decide);obtain⟨⟨uu5,ff5⟩,zz5⟩:=HR.out w6 lB6 5 (by decide);obtain⟨m0,m1,m2,m3,m4,m5⟩:=put6_cells (w:=w6) (b:=w.heap.size+1+1) (.int .i64 R.1) (.int .i64 R.2.1) (.slice oa on oc) (.int .i64 (R.2.2.steps:Int)) (.int .i64 (R.2.2.moves:Int)) (.int .i64 (R.2.2.copies:Int)) (fun k hk=>(HR.out w6 lB6 k hk).1);have lP:=put6_later (b:=w.heap.size+1+1) (.int .i64 R.1) (.int .i64 R.2.1) (.slice oa on oc) (.int .i64 (R.2.2.steps:Int)) (.int .i64 (R.2.2.moves:Int)) (.int .i64 (R.2.2.copies:Int)) (lw.trans lB6) (by omega);have hop:=p6.op;rw[t1]at hop
  have hop2:(put6 w6 (w.heap.size+1+1) (.int .i64 R.1) (.int .i64 R.2.1) (.slice oa on oc) (.int .i64 (R.2.2.steps:Int)) (.int .i64 (R.2.2.moves:Int)) (.int .i64 (R.2.2.copies:Int))).ownsRow w.heap.size 125 2 (.slice oa on oc) R.2.2.out.length (itemsL R.2.2.out):=by
   have hs3:=l23.size;have hsw:=lw.size;refine row_base (B:=C.w0.heap.size) (own_kept hop (fun b hb=>put6_far _ _ _ _ _ _ ?_)) (by rw[hw0];omega);have:=(hop.lt b hb).1;rw[hw0]at this;omega
  have HP:Hid (∀ W,Later (put6 w6 (w.heap.size+1+1) (.int .i64 R.1) (.int .i64 R.2.1) (.slice oa on oc) (.int .i64 (R.2.2.steps:Int)) (.int .i64 (R.2.2.moves:Int)) (.int .i64 (R.2.2.copies:Int))) W→Q (.returned (resV R (.slice oa on oc))) W):=fun W l=>HZ.out W oa on oc (own_kept hop2 (fun b hb=>l.block b (hop2.lt b hb).2)) (lP.trans l);have hPb:¬ C.P=w5.heap.size:=by have:=p5.box.lt;omega
  have hPr:¬ C.P=w.heap.size+1+1:=by
   have:=hC.p1;rw[hw0]at this;have:=l23.size;omega
  have hbr:¬ w5.heap.size=w.heap.size+1+1:=by
   have:=p5.lat.size;rw[hw0]at this;have:=l23.size;omega
  unfold put6 at HP m0 m1 m2 m3 m4 m5;clear HZ HR p4 p5 p6 hO hop hop2 lP hbk hC hkb lB6 l2 l3 l23 hx hH hF hw0 hlt;go_wp2_with fail
  rw[←hw6.out];go_region
  go_wp2_with fail
  exact bodyPost_ret (v:=resV R (.slice oa on oc)) (by unfold resV;simp[results,Tryz.results9,go_sem,m0,m1,m2,m3,m4,m5]) rfl (HP.out _ (Later.drew _))
 ·have HZ:Hid (∀ w',Later w w'→RunP x e w (.returned (.agg #[.int .i64 0,.int .i64 0,.slice none 0 0,.int .i64 0,.int .i64 0,.int .i64 0])) w'):=fun w' l=>by unfold RunP;rw[if_neg hb];exact⟨rfl,l⟩
  generalize RunP x e w=Q at *
  clear r1 r2 r3 r4
  cases h1:imB x with
  | false =>
   rw[h1]at HOk;have h0:=HI.out wB (Later.refl _);obtain⟨i0,i1,i2⟩:=h0;clear hb h1;go_enter Tryz.func9,Tryz.ntmps9;go_wp2_with fail
   rw[←hwBB.out];refine (HOk.out wB lw).mono ?_;rintro n2 w2 ⟨rfl,l2⟩;obtain⟨⟨uu0,ff0⟩,zz0⟩:=HR.out w2 l2 0 (by decide);obtain⟨⟨uu1,ff1⟩,zz1⟩:=HR.out w2 l2 1 (by decide);obtain⟨⟨uu2,ff2⟩,zz2⟩:=HR.out w2 l2 2 (by decide);obtain⟨⟨uu3,ff3⟩,zz3⟩:=HR.out w2 l2 3 (by decide);obtain⟨⟨uu4,ff4⟩,zz4⟩:=HR.out w2 l2 4 (by decide);obtain⟨⟨uu5,ff5⟩,zz5⟩:=HR.out w2 l2 5 (by decide);have HP:=HZ.out _ (put6_later (b:=w.heap.size+1+1) (.int .i64 0) (.int .i64 0) (.slice none 0 0) (.int .i64 0) (.int .i64 0) (.int .i64 0) (lw.trans l2) (by omega));obtain⟨m0,m1,m2,m3,m4,m5⟩:=put6_cells (w:=w2) (b:=w.heap.size+1+1) (.int .i64 0) (.int .i64 0) (.slice none 0 0) (.int .i64 0) (.int .i64 0) (.int .i64 0) (fun k hk=>(HR.out w2 l2 k hk).1);unfold put6 at HP m0 m1 m2 m3 m4 m5;clear HZ HR HI HS HOk HSe i0 i1 i2;go_wp2_with fail
   exact bodyPost_ret (v:=.agg #[.int .i64 0,.int .i64 0,.slice none 0 0,.int .i64 0,.int .i64 0,.int .i64 0]) (by simp[results,Tryz.results9,go_sem,m0,m1,m2,m3,m4,m5]) rfl HP
  | true =>
   have h2:seB e=false:=by
    cases q:seB e with
    | false=>rfl
    | true=>exact absurd ⟨h1,q⟩ hb
   rw[h1]at HOk;rw[h2]at HSe;have h0:=HI.out wB (Later.refl _);obtain⟨i0,i1,i2⟩:=h0;clear hb h1 h2;go_enter Tryz.func9,Tryz.ntmps9;go_wp2_with fail
   rw[←hwBB.out];refine (HOk.out wB lw).mono ?_;rintro n2 w2 ⟨rfl,l2⟩;obtain⟨j0,j1,j2,j3,j4⟩:=HS.out w2 l2;clear i0 i1 i2;go_wp2_with fail
   refine (HSe.out w2 (lw.trans l2)).mono ?_;rintro n3 w3 ⟨rfl,l3⟩;have l23:=l2.trans l3;obtain⟨⟨uu0,ff0⟩,zz0⟩:=HR.out w3 l23 0 (by decide);obtain⟨⟨uu1,ff1⟩,zz1⟩:=HR.out w3 l23 1 (by decide);obtain⟨⟨uu2,ff2⟩,zz2⟩:=HR.out w3 l23 2 (by decide);obtain⟨⟨uu3,ff3⟩,zz3⟩:=HR.out w3 l23 3 (by decide);obtain⟨⟨uu4,ff4⟩,zz4⟩:=HR.out w3 l23 4 (by decide);obtain⟨⟨uu5,ff5⟩,zz5⟩:=HR.out w3 l23 5 (by decide);have HP:=HZ.out _ (put6_later (b:=w.heap.size+1+1) (.int .i64 0) (.int .i64 0) (.slice none 0 0) (.int .i64 0) (.int .i64 0) (.int .i64 0) (lw.trans l23) (by omega));obtain⟨m0,m1,m2,m3,m4,m5⟩:=put6_cells (w:=w3) (b:=w.heap.size+1+1) (.int .i64 0) (.int .i64 0) (.slice none 0 0) (.int .i64 0) (.int .i64 0) (.int .i64 0) (fun k hk=>(HR.out w3 l23 k hk).1);unfold put6 at HP m0 m1 m2 m3 m4 m5;clear HZ HR HI HS HOk HSe j0 j1 j2 j3 j4;go_wp2_with fail
   exact bodyPost_ret (v:=.agg #[.int .i64 0,.int .i64 0,.slice none 0 0,.int .i64 0,.int .i64 0,.int .i64 0]) (by simp[results,Tryz.results9,go_sem,m0,m1,m2,m3,m4,m5]) rfl HP
end Go.Proofs.YtjnpncefkigcbaaGreat
