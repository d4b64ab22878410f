import Derived.Test.YtjnpncefkigcbaaGreatHj
import Derived.Test.YtjnpncefkigcbaaGreatHd
import Derived.Test.YtjnpncefkigcbaaGreatHe
import Derived.Maps.AppendAt
import Derived.Lib.SliceRun
import Derived.Deep.RegionLaw
import Derived.RegionTactic
import Derived.BigRegion
import Derived.Deep.RegionWith
import Derived.Laws.CopyOwn
import Derived.Deep.RegionHeld3
import Derived.Deep.RegionHeldLaw
set_option maxHeartbeats 100000000
set_option maxRecDepth 100000
namespace Go.Proofs.YtjnpncefkigcbaaGreat
open Go.RowKit Go.Lib Go.Maps
theorem hidx {α:Type}(x:α):∃ T,Hid (T=x):=⟨x,rfl⟩
structure Blk (w:World) (g n:Nat) (f:Nat→Value):Prop where
 lt:g<w.heap.size
 cell:∀ a,a<n→w.cell? ⟨g,a,none⟩=some (f a)∧w.frozen? ⟨g,a,none⟩=false
theorem Blk.agree {w:World}{g n:Nat}{f f':Nat→Value}(h:Blk w g n f) (e:∀ a,a<n→f' a=f a):Blk w g n f':=⟨h.lt,fun a ha=>by rw[e a ha];exact h.cell a ha⟩
theorem Blk.kept {w w':World}{g n:Nat}{f:Nat→Value}(h:Blk w g n f) (hs:w.heap.size≤w'.heap.size) (hb:w'.heap[g]?=w.heap[g]?):Blk w' g n f :=
 ⟨Nat.lt_of_lt_of_le h.lt hs,fun i hi=>by rw[World.cell?_of_block (w:=w) (w':=w') (a:=⟨g,i,none⟩) hb,World.frozen?_of_block (w:=w) (w':=w') (a:=⟨g,i,none⟩) hb];exact h.cell i hi⟩
theorem Blk.set {w:World}{g n:Nat}{f:Nat→Value}(h:Blk w g n f) {a:Nat}(ha:a<n) (v:Value):Blk (w.setCell ⟨g,a,none⟩ v) g n (fset f a v):=by
 refine⟨by rw[World.size_setCell];exact h.lt,fun j hj=>?_⟩;rw[World.frozen?_setCell];by_cases e:j=a
 ·subst e;rw[fset_at];exact⟨set_same (h.cell j hj).1,(h.cell j hj).2⟩
 ·rw[set_off _ _ _ (Ne.symm e),fset_ne _ _ e];exact h.cell j hj
theorem Blk.far {w:World}{g n:Nat}{f:Nat→Value}(h:Blk w g n f) {b:Nat}(hb:b≠g) (a:Nat) (v:Value):Blk (w.setCell ⟨b,a,none⟩ v) g n f :=
 h.kept (by rw[World.size_setCell];exact Nat.le_refl _) (Below.heap_setCell _ _ _ _ (Ne.symm hb))
theorem map_ext {f g:Nat→Value}{n:Nat}(h:(List.range n).map f=(List.range n).map g):∀ a,a<n→f a=g a:=fun a ha=>by
 have:=congrArg (fun l=>l[a]?) h;simpa[List.getElem?_map,List.getElem?_range ha] using this
structure Cx where
 x:Im
 H:Nat
 w0:World
 P:Nat
 WB:Nat
 PB:Nat
 sv:Value
 cg:Nat
 co:Nat
 cc:Nat
 fuel:Nat
 N:Nat
 M:Nat
 kb:Nat→Prop
 kw:World
structure CxI (C:Cx):Prop where
 xi:ImI C.x
 h8:8≤C.H
 h4:C.H≤4000
 p1:C.w0.heap.size≤C.P
 p2:C.w0.heap.size≤C.WB
 p3:C.w0.heap.size≤C.PB
 d1:C.P≠C.WB
 d2:C.P≠C.PB
 d3:C.WB≠C.PB
 fu:C.fuel≤200000
 hN:C.N=12000+2*C.H
 hM:C.M=2*C.H
 st:RdL C.w0 1 C.sv (Bs.dats C.x.structs)
 cd:RdL C.w0 4 (.slice (some ⟨C.cg,C.co,none⟩) C.x.codes.length C.cc) (Cd.dats C.x.codes)
 k1:¬ C.kb C.P
 k2:¬ C.kb C.WB
 k3:¬ C.kb C.PB
def codeP (C:Cx) (n:Nat):Value:=.pointer (some ⟨C.cg,C.co+n*4,none⟩)
def boxF (C:Cx) (s:Vm) (e:Nat) (cp iv ov rv:Value) (dv:Nat→Value) (a:Nat):Value :=
 if 10≤a∧a<26 then .int .i64 (s.rg (a - 10)) else if 26≤a∧a<54 then dv (a - 26) else match a with
 | 0=>iv
 | 1=>.int .i64 (C.fuel:Int)
 | 2=>.int .i64 (s.steps:Int)
 | 3=>ov
 | 4=>.slice none 0 0
 | 5=>C.sv
 | 6=>.slice (some ⟨C.cg,C.co,none⟩) C.x.codes.length C.cc
 | 7=>.int .i64 C.x.main
 | 8=>rv
 | 9=>.slice (some ⟨C.WB,0,none⟩) C.N C.N
 | 54=>.int .i64 (s.base:Int)
 | 55=>.int .i64 (s.size:Int)
 | 56=>.int .i64 (s.calls:Int)
 | 57=>.int .i64 (s.fp:Int)
 | 58=>.int .i64 (e:Int)
 | 59=>.int .i64 (s.pc:Int)
 | 60=>cp
 | 61=>.int .i64 (C.H:Int)
 | 62=>.int .i64 (s.used:Int)
 | 63=>.int .i64 (s.other C.H:Int)
 | 64=>.int .i64 (s.free:Int)
 | 65=>.slice (some ⟨C.PB,0,none⟩) C.M C.M
 | 66=>.int .i64 (s.moves:Int)
 | 67=>.int .i64 (s.copies:Int)
 | _=>.int .i64 0
def itemsL (l:List (Int × Int)):List Value:=l.flatMap fun p=>[.int .i64 p.1,.int .i64 p.2]
def deedN:Nat→Nat
 | 0=>89
 | 1=>90
 | 2=>91
 | 3=>92
 | 4=>93
 | 5=>94
 | 6=>95
 | 7=>96
 | 8=>97
 | 9=>98
 | 10=>99
 | 11=>100
 | 12=>101
 | 13=>101
 | 14=>101
 | 15=>101
 | 16=>102
 | 17=>103
 | 18=>104
 | 19=>105
 | 20=>106
 | 21=>107
 | 22=>108
 | 23=>109
 | 24=>110
 | 25=>111
 | 26=>112
 | _=>113
def deedV (k:Nat):Value:=.func (.func (deedN k)) #[] #[]
def KP (C:Cx) (w:World):Prop:=∀ b,C.kb b→b<w.heap.size∧w.heap[b]?=C.kw.heap[b]?
theorem KP.set {C:Cx}{w:World}{B:Nat}(h:KP C w) (hB:¬ C.kb B) (o:Nat) (v:Value):KP C (w.setCell ⟨B,o,none⟩ v):=fun b hb=>⟨by rw[World.size_setCell];exact (h b hb).1,(Below.heap_setCell _ _ _ _ (fun q:b=B=>hB (q ▸ hb))).trans (h b hb).2⟩
theorem KP.later {C:Cx}{w w':World}(h:KP C w) (l:Later w w'):KP C w':=fun b hb=>⟨Nat.lt_of_lt_of_le (h b hb).1 l.size,(l.block b (h b hb).1).trans (h b hb).2⟩
structure Pv (C:Cx) (w:World) (s:Vm) (e:Nat) (cp iv ov rv:Value):Prop where
 lat:Later C.w0 w
 box:Blk w C.P 68 (boxF C s e cp iv ov rv deedV)
 ip:RdL C.w0 1 iv (In.dats s.inp)
 rp:RdL C.w0 1 rv (In.dats s.orc)
 op:w.ownsRow C.w0.heap.size 125 2 ov s.out.length (itemsL s.out)
 on:ov.ownBlock≠some C.P∧ov.ownBlock≠some C.WB∧ov.ownBlock≠some C.PB
 wd:Blk w C.WB C.N (fun a=>.int .i64 (s.W a))
 pp:Blk w C.PB C.M (fun a=>.int .i64 (s.pl (12000+a):Int))
 kp:KP C w
 ok:∀ b,ov.ownBlock=some b→¬ C.kb b
theorem own_kept {base:Nat}{w w':World}{t:TypeId}{k n:Nat}{v:Value}{xs:List Value}(h:w.ownsRow base t k v n xs) (hk:∀ b,v.ownBlock=some b→w'.heap[b]?=w.heap[b]?):w'.ownsRow base t k v n xs:=by
 refine⟨h.1,?_⟩;rcases h.2 with e|⟨g,cap,cur,rfl,h1,h2,h3⟩
 ·exact .inl e
 ·exact .inr ⟨g,cap,cur,rfl,h1,by rw[hk g rfl];exact h2,h3⟩
structure OnlyM (C:Cx) (w w':World):Prop where
 size:w.heap.size≤w'.heap.size
 block:∀ k,k<w.heap.size→k≠C.P→k≠C.WB→k≠C.PB→w'.heap[k]?=w.heap[k]?
theorem OnlyM.refl (C:Cx) (w:World):OnlyM C w w:=⟨Nat.le_refl _,fun _ _ _ _ _=>rfl⟩
theorem OnlyM.trans {C:Cx}{a b c:World}(h:OnlyM C a b) (k:OnlyM C b c):OnlyM C a c:=⟨Nat.le_trans h.size k.size,fun i hi h1 h2 h3=>(k.block i (Nat.lt_of_lt_of_le hi h.size) h1 h2 h3).trans (h.block i hi h1 h2 h3)⟩
theorem OnlyM.later {C:Cx}{a w w':World}(h:OnlyM C a w) (k:Later w w'):OnlyM C a w':=h.trans ⟨k.size,fun i hi _ _ _=>k.block i hi⟩
theorem OnlyM.drewN {C:Cx}{a w:World}(h:OnlyM C a w) (n:Nat):OnlyM C a (w.drewN n):=h.trans ⟨Nat.le_refl _,fun _ _ _ _ _=>rfl⟩
theorem OnlyM.drew {C:Cx}{a w:World}(h:OnlyM C a w):OnlyM C a w.drew:=h.trans ⟨Nat.le_refl _,fun _ _ _ _ _=>rfl⟩
theorem OnlyM.setP {C:Cx}{a w:World}(h:OnlyM C a w) (o:Nat) (v:Value):OnlyM C a (w.setCell ⟨C.P,o,none⟩ v):=h.trans ⟨by rw[World.size_setCell];exact Nat.le_refl _,fun _ _ h1 _ _=>Below.heap_setCell _ _ _ _ h1⟩
theorem OnlyM.setW {C:Cx}{a w:World}(h:OnlyM C a w) (o:Nat) (v:Value):OnlyM C a (w.setCell ⟨C.WB,o,none⟩ v):=h.trans ⟨by rw[World.size_setCell];exact Nat.le_refl _,fun _ _ _ h1 _=>Below.heap_setCell _ _ _ _ h1⟩
theorem OnlyM.setL {C:Cx}{a w:World}(h:OnlyM C a w) (o:Nat) (v:Value):OnlyM C a (w.setCell ⟨C.PB,o,none⟩ v):=h.trans ⟨by rw[World.size_setCell];exact Nat.le_refl _,fun _ _ _ _ h1=>Below.heap_setCell _ _ _ _ h1⟩
theorem Later.setNew {a w:World}(h:Later a w) {b:Nat}(hb:a.heap.size≤b) (o:Nat) (v:Value):Later a (w.setCell ⟨b,o,none⟩ v):=Below.setCell h (p:=⟨b,o,none⟩) hb v
theorem Pv.kept {C:Cx}{w w':World}{s:Vm}{e:Nat}{cp iv ov rv:Value}(h:Pv C w s e cp iv ov rv) (hl:Later w w'):Pv C w' s e cp iv ov rv :=
 ⟨h.lat.trans hl,h.box.kept hl.size (hl.block _ h.box.lt),h.ip,h.rp,own_kept h.op (fun b hb=>hl.block b (h.op.lt b hb).2),h.on,h.wd.kept hl.size (hl.block _ h.wd.lt),h.pp.kept hl.size (hl.block _ h.pp.lt),h.kp.later hl,h.ok⟩
theorem Pv.setP {C:Cx}(hC:CxI C) {w:World}{s s':Vm}{e e':Nat}{cp cp' iv ov rv:Value}(h:Pv C w s e cp iv ov rv) {o:Nat}{v:Value}(ho:o<68) (hv:∀ a,a<68→boxF C s' e' cp' iv ov rv deedV a=fset (boxF C s e cp iv ov rv deedV) o v a)
  (h1:s'.W=s.W) (h2:s'.pl=s.pl) (h3:s'.inp=s.inp) (h4:s'.orc=s.orc) (h5:s'.out=s.out):Pv C (w.setCell ⟨C.P,o,none⟩ v) s' e' cp' iv ov rv :=
 ⟨h.lat.setNew hC.p1 _ _,(h.box.set ho v).agree hv,by rw[h3];exact h.ip,by rw[h4];exact h.rp,by rw[h5];exact own_kept h.op (fun b hb=>Below.heap_setCell _ _ _ _ (fun q:b=C.P=>h.on.1 (q ▸ hb))),h.on,by rw[h1];exact h.wd.far hC.d1 _ _,by rw[h2];exact h.pp.far hC.d2 _ _,h.kp.set hC.k1 _ _,h.ok⟩
theorem Pv.setReg {C:Cx}(hC:CxI C) {w:World}{s:Vm}{e:Nat}{cp iv ov rv:Value}(h:Pv C w s e cp iv ov rv) {a:Nat}(ha:a<16) (z:Int):Pv C (w.setCell ⟨C.P,10+a,none⟩ (.int .i64 z)) { s with rg:=fset s.rg a z } e cp iv ov rv:=by
 refine h.setP hC (by omega) (fun b hb=>?_) rfl rfl rfl rfl rfl;unfold fset;by_cases q:b=10+a
 ·subst q;rw[if_pos rfl];unfold boxF;rw[if_pos ⟨by omega,by omega⟩];show Value.int .i64 (if 10+a - 10=a then z else _)=_;rw[if_pos (by omega)]
 ·rw[if_neg q];unfold boxF;by_cases q2:10≤b∧b<26
  ·rw[if_pos q2,if_pos q2];show Value.int .i64 (if b - 10=a then z else s.rg (b - 10))=_;rw[if_neg (by omega)]
  ·rw[if_neg q2,if_neg q2];rfl
theorem Pv.setW {C:Cx}(hC:CxI C) {w:World}{s:Vm}{e:Nat}{cp iv ov rv:Value}(h:Pv C w s e cp iv ov rv) {a:Nat}(ha:a<C.N) (z:Int):Pv C (w.setCell ⟨C.WB,a,none⟩ (.int .i64 z)) { s with W:=fset s.W a z } e cp iv ov rv :=
 ⟨h.lat.setNew hC.p2 _ _,h.box.far (Ne.symm hC.d1) _ _,h.ip,h.rp,own_kept h.op (fun b hb=>Below.heap_setCell _ _ _ _ (fun q:b=C.WB=>h.on.2.1 (q ▸ hb))),h.on,(h.wd.set ha _).agree (fun b _=>by unfold fset;show Value.int .i64 (if b=a then z else s.W b)=_;split <;> rfl),h.pp.far hC.d3 _ _,h.kp.set hC.k2 _ _,h.ok⟩
theorem Pv.setL {C:Cx}(hC:CxI C) {w:World}{s:Vm}{e:Nat}{cp iv ov rv:Value}(h:Pv C w s e cp iv ov rv) {a:Nat}(ha:a<C.M) (z:Nat):Pv C (w.setCell ⟨C.PB,a,none⟩ (.int .i64 (z:Int))) { s with pl:=fset s.pl (12000+a) z } e cp iv ov rv :=
 ⟨h.lat.setNew hC.p3 _ _,h.box.far (Ne.symm hC.d2) _ _,h.ip,h.rp,own_kept h.op (fun b hb=>Below.heap_setCell _ _ _ _ (fun q:b=C.PB=>h.on.2.2 (q ▸ hb))),h.on,h.wd.far (Ne.symm hC.d3) _ _,(h.pp.set ha _).agree (fun b _=>by
  unfold fset;show Value.int .i64 ((if 12000+b=12000+a then z else s.pl (12000+b):Nat):Int)=_;by_cases q:b=a
  ·rw[if_pos (by omega),if_pos q]
  ·rw[if_neg (by omega),if_neg q]),h.kp.set hC.k3 _ _,h.ok⟩
theorem Pv.at {C:Cx}{w:World}{s:Vm}{e:Nat}{cp iv ov rv:Value}(h:Pv C w s e cp iv ov rv) (o:Nat) {v:Value}(ho:o<68) (hv:boxF C s e cp iv ov rv deedV o=v):w.cell? ⟨C.P,o,none⟩=some v∧w.frozen? ⟨C.P,o,none⟩=false:=by rw[←hv];exact h.box.cell o ho
theorem Pv.reg {C:Cx}{w:World}{s:Vm}{e:Nat}{cp iv ov rv:Value}(h:Pv C w s e cp iv ov rv) {a:Nat}(ha:a<16):w.cell? ⟨C.P,10+a,none⟩=some (.int .i64 (s.rg a))∧w.frozen? ⟨C.P,10+a,none⟩=false :=
 h.at (10+a) (by omega) (by unfold boxF;rw[if_pos ⟨by omega,by omega⟩,Nat.add_sub_cancel_left])
theorem Pv.word {C:Cx}{w:World}{s:Vm}{e:Nat}{cp iv ov rv:Value}(h:Pv C w s e cp iv ov rv) {a:Nat}(ha:a<C.N):w.cell? ⟨C.WB,a,none⟩=some (.int .i64 (s.W a))∧w.frozen? ⟨C.WB,a,none⟩=false:=h.wd.cell a ha
theorem Pv.place {C:Cx}(hC:CxI C) {w:World}{s:Vm}{e:Nat}{cp iv ov rv:Value}(h:Pv C w s e cp iv ov rv) {a:Nat}(h1:12000≤a) (ha:a<C.N):w.cell? ⟨C.PB,a - 12000,none⟩=some (.int .i64 (s.pl a:Int))∧w.frozen? ⟨C.PB,a - 12000,none⟩=false:=by
 have:=h.pp.cell (a - 12000) (by have:=hC.hN;have:=hC.hM;omega)
 rwa [show 12000+(a - 12000)=a by omega]at this
theorem Pv.c0 {C:Cx}{w:World}{s:Vm}{e:Nat}{cp iv ov rv:Value}(h:Pv C w s e cp iv ov rv):w.cell? ⟨C.P,0,none⟩=some (iv)∧w.frozen? ⟨C.P,0,none⟩=false:=h.at 0 (by decide) rfl
theorem Pv.c1 {C:Cx}{w:World}{s:Vm}{e:Nat}{cp iv ov rv:Value}(h:Pv C w s e cp iv ov rv):w.cell? ⟨C.P,1,none⟩=some (.int .i64 (C.fuel:Int))∧w.frozen? ⟨C.P,1,none⟩=false:=h.at 1 (by decide) rfl
theorem Pv.c2 {C:Cx}{w:World}{s:Vm}{e:Nat}{cp iv ov rv:Value}(h:Pv C w s e cp iv ov rv):w.cell? ⟨C.P,2,none⟩=some (.int .i64 (s.steps:Int))∧w.frozen? ⟨C.P,2,none⟩=false:=h.at 2 (by decide) rfl
theorem Pv.c3 {C:Cx}{w:World}{s:Vm}{e:Nat}{cp iv ov rv:Value}(h:Pv C w s e cp iv ov rv):w.cell? ⟨C.P,3,none⟩=some (ov)∧w.frozen? ⟨C.P,3,none⟩=false:=h.at 3 (by decide) rfl
theorem Pv.c5 {C:Cx}{w:World}{s:Vm}{e:Nat}{cp iv ov rv:Value}(h:Pv C w s e cp iv ov rv):w.cell? ⟨C.P,5,none⟩=some (C.sv)∧w.frozen? ⟨C.P,5,none⟩=false:=h.at 5 (by decide) rfl
theorem Pv.c6 {C:Cx}{w:World}{s:Vm}{e:Nat}{cp iv ov rv:Value}(h:Pv C w s e cp iv ov rv):w.cell? ⟨C.P,6,none⟩=some (.slice (some ⟨C.cg,C.co,none⟩) C.x.codes.length C.cc)∧w.frozen? ⟨C.P,6,none⟩=false:=h.at 6 (by decide) rfl
theorem Pv.c7 {C:Cx}{w:World}{s:Vm}{e:Nat}{cp iv ov rv:Value}(h:Pv C w s e cp iv ov rv):w.cell? ⟨C.P,7,none⟩=some (.int .i64 C.x.main)∧w.frozen? ⟨C.P,7,none⟩=false:=h.at 7 (by decide) rfl
theorem Pv.c8 {C:Cx}{w:World}{s:Vm}{e:Nat}{cp iv ov rv:Value}(h:Pv C w s e cp iv ov rv):w.cell? ⟨C.P,8,none⟩=some (rv)∧w.frozen? ⟨C.P,8,none⟩=false:=h.at 8 (by decide) rfl
theorem Pv.c9 {C:Cx}{w:World}{s:Vm}{e:Nat}{cp iv ov rv:Value}(h:Pv C w s e cp iv ov rv):w.cell? ⟨C.P,9,none⟩=some (.slice (some ⟨C.WB,0,none⟩) C.N C.N)∧w.frozen? ⟨C.P,9,none⟩=false:=h.at 9 (by decide) rfl
theorem Pv.c54 {C:Cx}{w:World}{s:Vm}{e:Nat}{cp iv ov rv:Value}(h:Pv C w s e cp iv ov rv):w.cell? ⟨C.P,54,none⟩=some (.int .i64 (s.base:Int))∧w.frozen? ⟨C.P,54,none⟩=false:=h.at 54 (by decide) rfl
theorem Pv.c55 {C:Cx}{w:World}{s:Vm}{e:Nat}{cp iv ov rv:Value}(h:Pv C w s e cp iv ov rv):w.cell? ⟨C.P,55,none⟩=some (.int .i64 (s.size:Int))∧w.frozen? ⟨C.P,55,none⟩=false:=h.at 55 (by decide) rfl
theorem Pv.c56 {C:Cx}{w:World}{s:Vm}{e:Nat}{cp iv ov rv:Value}(h:Pv C w s e cp iv ov rv):w.cell? ⟨C.P,56,none⟩=some (.int .i64 (s.calls:Int))∧w.frozen? ⟨C.P,56,none⟩=false:=h.at 56 (by decide) rfl
theorem Pv.c57 {C:Cx}{w:World}{s:Vm}{e:Nat}{cp iv ov rv:Value}(h:Pv C w s e cp iv ov rv):w.cell? ⟨C.P,57,none⟩=some (.int .i64 (s.fp:Int))∧w.frozen? ⟨C.P,57,none⟩=false:=h.at 57 (by decide) rfl
theorem Pv.c58 {C:Cx}{w:World}{s:Vm}{e:Nat}{cp iv ov rv:Value}(h:Pv C w s e cp iv ov rv):w.cell? ⟨C.P,58,none⟩=some (.int .i64 (e:Int))∧w.frozen? ⟨C.P,58,none⟩=false:=h.at 58 (by decide) rfl
theorem Pv.c59 {C:Cx}{w:World}{s:Vm}{e:Nat}{cp iv ov rv:Value}(h:Pv C w s e cp iv ov rv):w.cell? ⟨C.P,59,none⟩=some (.int .i64 (s.pc:Int))∧w.frozen? ⟨C.P,59,none⟩=false:=h.at 59 (by decide) rfl
theorem Pv.c60 {C:Cx}{w:World}{s:Vm}{e:Nat}{cp iv ov rv:Value}(h:Pv C w s e cp iv ov rv):w.cell? ⟨C.P,60,none⟩=some (cp)∧w.frozen? ⟨C.P,60,none⟩=false:=h.at 60 (by decide) rfl
theorem Pv.c61 {C:Cx}{w:World}{s:Vm}{e:Nat}{cp iv ov rv:Value}(h:Pv C w s e cp iv ov rv):w.cell? ⟨C.P,61,none⟩=some (.int .i64 (C.H:Int))∧w.frozen? ⟨C.P,61,none⟩=false:=h.at 61 (by decide) rfl
theorem Pv.c62 {C:Cx}{w:World}{s:Vm}{e:Nat}{cp iv ov rv:Value}(h:Pv C w s e cp iv ov rv):w.cell? ⟨C.P,62,none⟩=some (.int .i64 (s.used:Int))∧w.frozen? ⟨C.P,62,none⟩=false:=h.at 62 (by decide) rfl
theorem Pv.c63 {C:Cx}{w:World}{s:Vm}{e:Nat}{cp iv ov rv:Value}(h:Pv C w s e cp iv ov rv):w.cell? ⟨C.P,63,none⟩=some (.int .i64 (s.other C.H:Int))∧w.frozen? ⟨C.P,63,none⟩=false:=h.at 63 (by decide) rfl
theorem Pv.c64 {C:Cx}{w:World}{s:Vm}{e:Nat}{cp iv ov rv:Value}(h:Pv C w s e cp iv ov rv):w.cell? ⟨C.P,64,none⟩=some (.int .i64 (s.free:Int))∧w.frozen? ⟨C.P,64,none⟩=false:=h.at 64 (by decide) rfl
theorem Pv.c65 {C:Cx}{w:World}{s:Vm}{e:Nat}{cp iv ov rv:Value}(h:Pv C w s e cp iv ov rv):w.cell? ⟨C.P,65,none⟩=some (.slice (some ⟨C.PB,0,none⟩) C.M C.M)∧w.frozen? ⟨C.P,65,none⟩=false:=h.at 65 (by decide) rfl
theorem Pv.c66 {C:Cx}{w:World}{s:Vm}{e:Nat}{cp iv ov rv:Value}(h:Pv C w s e cp iv ov rv):w.cell? ⟨C.P,66,none⟩=some (.int .i64 (s.moves:Int))∧w.frozen? ⟨C.P,66,none⟩=false:=h.at 66 (by decide) rfl
theorem Pv.c67 {C:Cx}{w:World}{s:Vm}{e:Nat}{cp iv ov rv:Value}(h:Pv C w s e cp iv ov rv):w.cell? ⟨C.P,67,none⟩=some (.int .i64 (s.copies:Int))∧w.frozen? ⟨C.P,67,none⟩=false:=h.at 67 (by decide) rfl
def finP (e c:Int):Ending:=.panicked [{ v:=.iface 118 (.agg #[.int .i64 e,.int .i64 c]),recovered:=false }]
theorem Later.drewN' (w:World) (k:Nat):Later w (w.drewN k):=⟨rfl,rfl,rfl,Nat.le_refl _,fun _ _=>rfl⟩
def MustQ (n0:Ending) (w:World) (n:Ending) (w':World):Prop:=n=n0∧Later w w'
def unitE:Ending:=.returned (.tuple #[])
theorem must_no (e c:Int) (w:World):Calls Tryz.prog 115 #[.bool false,.agg #[.int .i64 e,.int .i64 c]] w (MustQ (finP e c) w):=by
 have HZ:MustQ (finP e c) w (finP e c) (w.alloc (Obj.cells #[.int .i64 e,.int .i64 c] 118)):=⟨rfl,Below.alloc (Later.refl w) (Nat.le_refl _) _⟩
 generalize MustQ (finP e c) w=Q at *
 unfold finP at HZ;go_enter Tryz.func115,Tryz.ntmps115;go_wp2_with fail
 exact⟨rfl,HZ⟩
theorem must_yes (e c:Int) (w:World):Calls Tryz.prog 115 #[.bool true,.agg #[.int .i64 e,.int .i64 c]] w (MustQ unitE w):=by
 have HZ:MustQ unitE w unitE (w.alloc (Obj.cells #[.int .i64 e,.int .i64 c] 118)):=⟨rfl,Below.alloc (Later.refl w) (Nat.le_refl _) _⟩
 generalize MustQ unitE w=Q at *
 unfold unitE at HZ;go_enter Tryz.func115,Tryz.ntmps115;go_wp2_with fail
 go_end0;exact HZ
theorem stuck_yes (w:World):Calls Tryz.prog 66 #[.bool true] w (MustQ unitE w):=by
 go_enter Tryz.func66,Tryz.ntmps66;go_wp2_with fail
 refine (must_yes 7 0 w).mono ?_;rintro n w1 ⟨rfl,l⟩;unfold unitE;go_wp2_with fail
 go_end0;exact⟨rfl,l⟩
theorem stuck_no (w:World):Calls Tryz.prog 66 #[.bool false] w (MustQ (finP 7 0) w):=by
 go_enter Tryz.func66,Tryz.ntmps66;go_wp2_with fail
 refine (must_no 7 0 w).mono ?_;rintro n w1 ⟨rfl,l⟩
 have HZ:MustQ (finP 7 0) w (finP 7 0) w1:=⟨rfl,l⟩
 unfold finP at HZ ⊢;go_wp2_with fail
 exact⟨rfl,HZ⟩
def DrQ (n0:Ending) (w:World) (n:Ending) (w':World):Prop:=n=n0∧∃ k,w'=w.drewN k
theorem ihead_any {C:Cx}{w:World}{s:Vm}{e:Nat}{cp iv ov rv:Value}(h:Pv C w s e cp iv ov rv) {a:Nat}(ha:a<C.N) (h0:0≤s.W a) (h9:s.W a≤900) :
  Calls Tryz.prog 153 #[.pointer (some ⟨C.P,0,none⟩),.int .i64 (a:Int)] w (DrQ (.returned (.tuple #[.int .i64 (s.W a % 8),.int .i64 (s.W a / 8)])) w):=by
 obtain⟨c9,_⟩:=h.c9;obtain⟨cw,_⟩:=h.word ha
 generalize s.W a=z at *
 have e1:z.tmod 8=z % 8:=Int.tmod_eq_emod_of_nonneg h0;have e2:z.tdiv 8=z / 8:=Int.tdiv_eq_ediv_of_nonneg h0;have i1:(a:Int)<(C.N:Int):=by omega
 clear h;go_enter Tryz.func153,Tryz.ntmps153;go_wp2_with fail
 go_quiet (fail)
 go_wp2_with fail
 go_ret2;exact⟨rfl,_,rfl⟩
theorem isizeAt_any {C:Cx}(hC:CxI C) {w:World}{s:Vm}{e:Nat}{cp iv ov rv:Value}(h:Pv C w s e cp iv ov rv) {a:Nat}(ha:a<C.N) (hg:Good C.x (s.W a)) :
  Calls Tryz.prog 162 #[.pointer (some ⟨C.P,0,none⟩),.int .i64 (a:Int)] w (DrQ (.returned (.int .i64 ((1+szW C.x (s.W a):Nat):Int))) w):=by
 have hh:=ihead_any h ha hg.1 hg.2.1;have hg3:=hg.2.2.1;have hsz:=hg.sz hC.xi.st;have h0:=hg.1;have h9:=hg.2.1;unfold szW at *;by_cases hm:s.W a % 8=0
 ·have hn:=hg3 hm;rw[if_pos hm]at hsz ⊢;unfold stAt at *;rw[List.getD_eq_getElem?_getD,List.getElem?_eq_getElem hn,Option.getD_some]at hsz ⊢;obtain⟨sa,sc,hsv,_⟩:=Bs.slice hC.st;have c5:=(h.c5).1;have hst:=hC.st;rw[hsv]at c5 hst;obtain⟨g,off,v0,rfl,hgl,hc0,hr0⟩:=Bs.elem hst _ hn;obtain⟨va,vc,rfl,_⟩:=Bo.slice hr0;rw[Nat.mul_one]at hc0;have hc1:=(Below.cell h.lat (p:=⟨g,off+(s.W a / 8).toNat,none⟩) hgl).trans hc0
  generalize C.x.structs[(s.W a / 8).toNat].l.length=L at *
  obtain⟨q,hq⟩:∃ q:Nat,s.W a / 8=(q:Int):=⟨(s.W a / 8).toNat,by omega⟩
  rw[hm,hq]at hh;rw[hq]at hc1 hn;simp only[Int.toNat_natCast]at hc1 hn;have i1:(q:Int)<(C.x.structs.length:Int):=by omega
  have hw:1+(L:Int)≤9223372036854775807:=by omega
  clear h hst hr0 hc0 hsv hg3 hg;go_enter Tryz.func162,Tryz.ntmps162;go_wp2_with fail
  refine hh.mono ?_;rintro n w1 ⟨rfl,k,rfl⟩;go_wp2_with fail
  go_ret;exact⟨ret_int (by omega),_,rfl⟩
 ·rw[if_neg hm]at hsz ⊢
  obtain⟨q,hq⟩:∃ q:Nat,s.W a / 8=(q:Int):=⟨(s.W a / 8).toNat,by omega⟩
  rw[hq]at hh hsz ⊢;simp only[Int.toNat_natCast]at hsz ⊢
  generalize s.W a % 8=m at *
  have hm':(m==0)=false:=by simp[hm]
  clear h;go_enter Tryz.func162,Tryz.ntmps162;go_wp2_with fail
  refine hh.mono ?_;rintro n w1 ⟨rfl,k,rfl⟩;go_wp2_with fail
  go_ret;exact⟨ret_int (by omega),_,rfl⟩
theorem iobj_b {C:Cx}(hC:CxI C) {w:World}{s:Vm}{e:Nat}{cp iv ov rv:Value}(h:Pv C w s e cp iv ov rv) (hu:s.used=12000∨s.used=12000+C.H) {z:Int}{b:Bool}(hb:s.obj C.H z=b) :
  Calls Tryz.prog 152 #[.pointer (some ⟨C.P,0,none⟩),.int .i64 z] w (DrQ (.returned (.bool b)) w):=by
 subst hb;have hN:=hC.hN;have hM:=hC.hM;have h4:=hC.h4;obtain⟨c61,_⟩:=h.c61;obtain⟨c62,_⟩:=h.c62;obtain⟨c65,_⟩:=h.c65;have hw1:(s.used:Int)+(C.H:Int)≤9223372036854775807:=by omega
 cases e1:inB z (s.used:Int) ((s.used:Int)+(C.H:Int) - 1) with
 | false =>
  have:s.obj C.H z=false:=by
   unfold Vm.obj inB at *;simp only[Bool.and_eq_false_iff,decide_eq_false_iff_not]at *;omega
  rw[this];clear h this
  generalize s.used=U at *
  generalize C.H=H at *
  go_enter Tryz.func152,Tryz.ntmps152;go_wp2_with fail
  go_quiet ((go_at_call 59;exact Calls.quiet_of_same (isin_b (by assumption) _)))
  go_wp2_with fail
  go_ret;exact⟨rfl,_,rfl⟩
 | true =>
  have hr:(s.used:Int)≤z∧z<(s.used:Int)+C.H:=by
   unfold inB at e1;simp only[Bool.and_eq_true,decide_eq_true_eq]at e1;omega
  obtain⟨a,rfl⟩:∃ a:Nat,z=((12000+a:Nat):Int):=⟨z.toNat - 12000,by omega⟩
  obtain⟨cp,_⟩:=h.pp.cell a (by omega)
  have:s.obj C.H ((12000+a:Nat):Int)=(((s.pl (12000+a):Nat):Int) != 0):=by
   unfold Vm.obj;rw[decide_eq_true hr.1,decide_eq_true hr.2,Bool.true_and,Bool.true_and,Int.toNat_natCast]
   cases hq:s.pl (12000+a) with
   | zero=>rfl
   | succ k=>simp;omega
  rw[this];have hs:((12000+a:Nat):Int) - 12000=(a:Int):=by omega
  have i1:(a:Int)<(C.M:Int):=by omega
  have hw2:((12000+a:Nat):Int)≤16000+16000:=by omega
  clear h this
  generalize s.used=U at *
  generalize C.H=H at *
  generalize ((12000+a:Nat):Int)=z at *
  generalize s.pl (12000+a)=p at *
  go_enter Tryz.func152,Tryz.ntmps152;go_wp2_with fail
  go_quiet ((go_at_call 59;exact Calls.quiet_of_same (isin_b (by assumption) _)))
  go_wp2_with fail
  go_ret;exact⟨rfl,_,rfl⟩
theorem setCells_far (b:Nat):∀ (vs:List Value) (o:Nat) (w:World) (k:Nat),k≠b→(w.setCells b o vs).heap[k]?=w.heap[k]?
 | [],_,_,_,_=>rfl
 | v::r,o,w,k,h=>by rw[World.setCells,setCells_far b r _ _ k h];exact Below.heap_setCell _ _ _ _ h
theorem setCells_size (b:Nat):∀ (vs:List Value) (o:Nat) (w:World),(w.setCells b o vs).heap.size=w.heap.size
 | [],_,_=>rfl
 | v::r,o,_=>by rw[World.setCells,setCells_size b r,World.size_setCell]
theorem setCells_later {B b:Nat}{w0:World}(hb:B≤b):∀ (vs:List Value) (o:Nat) (w:World),Below B w0 w→Below B w0 (w.setCells b o vs)
 | [],_,_,h=>h
 | v::r,o,_,h=>setCells_later hb r _ _ (Below.setCell h (p:=⟨b,o,none⟩) hb v)
theorem Blk.setCells {w:World}{g n o m:Nat}{f fv:Nat→Value}(h:Blk w g n f) (hm:o+m≤n):Blk (w.setCells g o ((List.range m).map fv)) g n (fun a=>if o≤a∧a<o+m then fv (a - o) else f a):=by
 refine⟨by rw[setCells_size];exact h.lt,fun a ha=>⟨?_,by rw[World.frozen?_setCells];exact (h.cell a ha).2⟩⟩;by_cases hq:o≤a∧a<o+m
 ·rw[if_pos hq]
  have:=World.cell?_setCells_in g ((List.range m).map fv) o w (fun j hj=>by
   have hj':j<m:=by simpa using hj
   rw[(h.cell (o+j) (by omega)).1];rfl) (a - o) (by simp;omega)
  rw[show o+(a - o)=a by omega]at this;rw[this];simp
 ·rw[if_neg hq,World.cell?_setCells_out g _ o w ⟨g,a,none⟩ (fun _ _=>by simp;omega)];exact (h.cell a ha).1
theorem KP.cells {C:Cx}{w:World}{B:Nat}(h:KP C w) (hB:¬ C.kb B) (o:Nat) (vs:List Value):KP C (w.setCells B o vs):=fun b hb=>⟨by rw[setCells_size];exact (h b hb).1,(setCells_far _ _ _ _ _ (fun q:b=B=>hB (q ▸ hb))).trans (h b hb).2⟩
theorem Pv.setWs {C:Cx}(hC:CxI C) {w:World}{s:Vm}{e:Nat}{cp iv ov rv:Value}(h:Pv C w s e cp iv ov rv) {o m:Nat}(ho:o+m≤C.N) (z:Nat→Int) :
  Pv C (w.setCells C.WB o ((List.range m).map (fun j=>Value.int .i64 (z j)))) { s with W:=fun a=>if o≤a∧a<o+m then z (a - o) else s.W a } e cp iv ov rv :=
 ⟨setCells_later hC.p2 _ _ _ h.lat,h.box.kept (by rw[setCells_size];exact Nat.le_refl _) (setCells_far _ _ _ _ _ hC.d1),h.ip,h.rp,own_kept h.op (fun b hb=>setCells_far _ _ _ _ _ (fun q:b=C.WB=>h.on.2.1 (q ▸ hb))),h.on,(h.wd.setCells ho).agree (fun a _=>by
  show Value.int .i64 (if _ then _ else _)=_
  split <;> rfl),h.pp.kept (by rw[setCells_size];exact Nat.le_refl _) (setCells_far _ _ _ _ _ (Ne.symm hC.d3)),h.kp.cells hC.k2 _ _,h.ok⟩
theorem OnlyM.setWs {C:Cx}{a w:World}(h:OnlyM C a w) (o:Nat) (vs:List Value):OnlyM C a (w.setCells C.WB o vs):=h.trans ⟨by rw[setCells_size];exact Nat.le_refl _,fun _ _ _ h1 _=>setCells_far _ _ _ _ _ h1⟩
theorem OnlyM.of_later {C:Cx}{w w':World}(h:Later w w'):OnlyM C w w':=(OnlyM.refl C w).later h
def Enters (P:Program) (f:FuncId):Prop:=∀ (args:Array Value) (w:World),(callFunc f args).run P w=.ok (.enter f args) w
theorem enters_of {P:Program}{f:FuncId}{fn:Func}(hf:P.funcs[f]?=some fn) (hname:(fn.name== "runtime.NumGoroutine")=false) (hb:fn.body.isNone=false):Enters P f:=by
 intro args w
 have h1:¬ fn.name= "runtime.NumGoroutine":=by simpa using hname
 have h2:¬ fn.body=none:=by intro h;rw[h]at hb;cases hb
 simp[callFunc,hf,h1,h2]
theorem tk {P:Program}{md:Region.Mode}{ops:Array Oper}{Q:Exit→Act→World→Prop}{S:World→Prop}(i:Nat) (v:Value) {oi:Oper}{fuel:Nat}{listed:Array Bool}{a:Act}{w:World}(hi:ops[i]?=some oi) (h:wpAnyH P md ops Q S fuel (listed.setIfInBounds i true) (a.put oi.dst v) w)
  (hs:Region.noSelect ops=true:=by kernel_rfl) (hf:Region.free md ops listed i=true:=by kernel_rfl) (hr:(Region.ready md ops listed).contains i=true:=by kernel_rfl)
  (hQ:∀ c a w,Q (.panic c) (a.put oi.dst v) w→Q (.panic c) a w:=by exact fun _ _ _ h=>h) (hy:YieldsIf P ops S oi v a:=by refine Or.inl ⟨by rfl,fun w9 hSw=>?_⟩;(try dsimp only at hSw);first|(go_simp;done)|(go_simp;with_reducible rfl)) (hS:S w:=by assumption):wpAnyH P md ops Q S (fuel+1) listed a w:=wpAnyH_take hi hs hf hr hQ hy hS h
theorem rd1 {P:Program}{md:Region.Mode}{ops:Array Oper}{Q:Exit→Act→World→Prop}{S:World→Prop}(i:Nat) {o:Oper}{fuel:Nat}{listed:Array Bool}{a:Act}{w:World}(ho:ops[i]?=some o)
  (h:∀ K':Act→World→Prop,Shut (∀ a w,S w→(S w→wpAnyH P md ops Q S fuel (listed.setIfInBounds i true) a w)→K' a w)→if Region.wanted o (yielded ops a.tmps)=true then Oper.wp P o a w K' Q else K' (a.put o.dst undef) w)
  (hr:Region.ready md ops listed=[i]:=by kernel_rfl):wpAnyH P md ops Q S (fuel+1) listed a w:=wpAnyH_ready hr (by simp) (AllReadyH.cons ho h AllReadyH.nil)
theorem step_call {P:Program}{ops:Array Oper}{o:Oper}{a:Act}{w:World}{K:Act→World→Prop}{Q:Exit→Act→World→Prop}{E:Prop}
  (hg:o.guard=none) (f:FuncId) (he:Enters P f) (xs:List Operand) (ts:Array TypeId) (hop:o.op=Op.call { callee:=Callee.value (Operand.func f),args:=xs.toArray,argTypes:=ts })
  (vs:List Value) (hv:xs.map a.eval=vs) (R:Value→World→Prop) (hc:Calls P f vs.toArray w fun e w'=>∃ v,e=.returned v∧R v w')
  (h:∀ v w',R v w'→K (a.put o.dst v) w') :
  if Region.wanted o (yielded ops a.tmps)=true then Oper.wp P o a w K Q else E:=by
 have hw:Region.wanted o (yielded ops a.tmps)=true:=by simp[Region.wanted,hg]
 rw[if_pos hw];unfold Oper.wp
 have hr:(execOp a.eval o).run P w=.ok (.enter f vs.toArray) w:=by
  subst hv;have h1:=he (xs.map a.eval).toArray w;simpa[execOp,hop,resolve,invoke,Act.eval,Deferred.ofValue] using h1
 rw[hr,Oper.upon_enter];refine hc.mono ?_;rintro e w' ⟨v,rfl,hR⟩;exact h v w' hR
theorem step_callP {P:Program}{ops:Array Oper}{o:Oper}{a:Act}{w:World}{K:Act→World→Prop}{Q:Exit→Act→World→Prop}{E:Prop}
  (hg:o.guard=none) (f:FuncId) (he:Enters P f) (xs:List Operand) (ts:Array TypeId) (hop:o.op=Op.call { callee:=Callee.value (Operand.func f),args:=xs.toArray,argTypes:=ts })
  (vs:List Value) (hv:xs.map a.eval=vs) (R:Value→World→Prop) (Rp:List PanicEntry→World→Prop) (hc:Calls P f vs.toArray w fun e w'=>(∃ v,e=.returned v∧R v w')∨(∃ ch,e=.panicked ch∧Rp ch w'))
  (hp:∀ ch w',Rp ch w'→Q (.panic ch) a w') (h:∀ v w',R v w'→K (a.put o.dst v) w') :
  if Region.wanted o (yielded ops a.tmps)=true then Oper.wp P o a w K Q else E:=by
 have hw:Region.wanted o (yielded ops a.tmps)=true:=by simp[Region.wanted,hg]
 rw[if_pos hw];unfold Oper.wp
 have hr:(execOp a.eval o).run P w=.ok (.enter f vs.toArray) w:=by
  subst hv;have h1:=he (xs.map a.eval).toArray w;simpa[execOp,hop,resolve,invoke,Act.eval,Deferred.ofValue] using h1
 rw[hr,Oper.upon_enter];refine hc.mono ?_;rintro e w' (⟨v,rfl,hR⟩|⟨ch,rfl,hR⟩)
 ·exact h v w' hR
 ·exact hp ch w' hR
theorem Vm.ext {s s':Vm}(h1:∀ a,s'.W a=s.W a) (h2:∀ a,s'.pl a=s.pl a) (h3:s'={ s with W:=s'.W,pl:=s'.pl }):s'=s:=by
 have e1:s'.W=s.W:=funext h1;have e2:s'.pl=s.pl:=funext h2;rw[h3,e1,e2]
theorem Pv.conv {C:Cx}{w:World}{s s':Vm}{e:Nat}{cp iv ov rv:Value}(h:Pv C w s e cp iv ov rv) (h1:∀ a,s'.W a=s.W a) (h2:∀ a,s'.pl a=s.pl a) (h3:s'={ s with W:=s'.W,pl:=s'.pl }):Pv C w s' e cp iv ov rv:=by rw[Vm.ext h1 h2 h3];exact h
theorem step_copyC {P:Program}{ops:Array Oper}{o:Oper}{a:Act}{w:World}{K:Act→World→Prop}{Q:Exit→Act→World→Prop}{E:Prop}(hgd:o.guard=none) (d s:Operand) (dT sT:TypeId)
  (ho:o.op=.call { callee:=.builtin .copy,args:=#[d,s],argTypes:=#[dT,sT] }) (elem:TypeId) (hu:P.underlying dT=some (.slice elem)) (hsz:(P.info? elem).map (·.size)=some 1)
  (b off dLen dCap:Nat) (ad:Addr) (sLen sCap:Nat) (hd:a.eval d=.slice (some ⟨b,off,none⟩) dLen dCap) (hs:a.eval s=.slice (some ad) sLen sCap)
  (cs:List Value) (m:Nat) (hm:cs.length=m) (hn:m=Nat.min sLen dLen) (hsrc:∀ j v,cs[j]?=some v→w.cell? (ad.add j)=some v) (hc:∀ j,j<m→(w.cell? ⟨b,off+j,none⟩).isSome=true∧w.frozen? ⟨b,off+j,none⟩=false) (h1:∀ v∈cs,v.oneCell'=true)
  (h:∀ w',Hid (w'=w.setCells b off cs)→K (a.put o.dst (.int .i64 (m:Int))) w') :
  if Region.wanted o (yielded ops a.tmps)=true then Oper.wp P o a w K Q else E:=by
 have hw:Region.wanted o (yielded ops a.tmps)=true:=by simp[Region.wanted,hgd]
 rw[if_pos hw];subst hm;have hrun:=run_copy_cells (P:=P) w dT sT o.type elem b off dLen dCap ad sLen sCap cs hu hsz hn hsrc (fun j hj=>(hc j hj).1) (fun j hj=>(hc j hj).2) h1;unfold Oper.wp;simp[execOp,ho,resolve,invoke,builtin,hd,hs,hrun,Result.andThen];exact h _ rfl
theorem en_sizeAt:Enters Tryz.prog 162:=enters_of Tryz.func162 (by kernel_rfl) (by kernel_rfl)
def Vm.mv (x:Im) (s:Vm) (a:Nat):Vm:={ s with W:=fun b=>if s.free≤b∧b<s.free+(1+szW x (s.W a)) then s.W (b - s.free+a) else s.W b,pl:=fset s.pl s.free s.free,free:=s.free+(1+szW x (s.W a)) }
def MvQ (C:Cx) (w:World) (n0:Ending) (s:Vm) (e:Nat) (cp iv ov rv:Value) (n:Ending) (w':World):Prop:=n=n0∧Pv C w' s e cp iv ov rv∧OnlyM C w w'
def IMove (C:Cx):Prop:=∀ {w:World}{s:Vm}{e:Nat}{cp iv ov rv:Value},Pv C w s e cp iv ov rv→∀ {a:Nat},a+(1+szW C.x (s.W a))≤C.N→s.free+(1+szW C.x (s.W a))≤C.N→12000≤s.free→Good C.x (s.W a) →
  Calls Tryz.prog 166 #[.pointer (some ⟨C.P,0,none⟩),.int .i64 (a:Int)] w (MvQ C w (.returned (.int .i64 (s.free:Int))) (s.mv C.x a) e cp iv ov rv)
def PanQ (C:Cx) (s:Vm) (ov:Value) (c d:Int) (n:Ending) (w':World):Prop:=n=finP c d∧∃ t e cp iv rv,Pv C w' t e cp iv ov rv∧t.out=s.out∧t.steps=s.steps∧t.moves=s.moves∧t.copies=s.copies
theorem PanQ.of {C:Cx}{s t:Vm}{ov:Value}{c d:Int}{n:Ending}{w':World}(h:PanQ C s ov c d n w') (h1:s.out=t.out) (h2:s.steps=t.steps) (h3:s.moves=t.moves) (h4:s.copies=t.copies):PanQ C t ov c d n w':=by
 obtain⟨rfl,u,e,cp,iv,rv,p,a1,a2,a3,a4⟩:=h;exact⟨rfl,u,e,cp,iv,rv,p,a1.trans h1,a2.trans h2,a3.trans h3,a4.trans h4⟩
def OptQ (C:Cx) (w:World) (n0:Ending) (s:Vm) (o:Option Vm) (e:Nat) (cp iv ov rv:Value) (n:Ending) (w':World):Prop :=
 match o with
 | none=>PanQ C s ov 7 0 n w'
 | some t=>MvQ C w n0 t e cp iv ov rv n w'
theorem foll_zero {x:Im}{H:Nat}{s:Vm}{a:Nat}(h:s.W a=0):s.foll x H a=some { s with W:=fset s.W a 0 }:=by unfold Vm.foll Vm.fwd;rw[if_pos h];rfl
theorem foll_stuck {x:Im}{H:Nat}{s:Vm}{a:Nat}(h:¬ s.W a=0) (ho:s.obj H (s.W a)=false):s.foll x H a=none:=by unfold Vm.foll Vm.fwd;rw[if_neg h,if_neg (by rw[ho];simp)];rfl
theorem foll_moved {x:Im}{H:Nat}{s:Vm}{a:Nat}(h:¬ s.W a=0) (ho:s.obj H (s.W a)=true) (hp:¬ s.pl (s.W a).toNat=(s.W a).toNat):s.foll x H a=some { s with W:=fset s.W a (s.pl (s.W a).toNat:Int) }:=by unfold Vm.foll Vm.fwd;rw[if_neg h,if_pos ho,if_neg hp];rfl
theorem foll_move {x:Im}{H:Nat}{s:Vm}{a:Nat}(h:¬ s.W a=0) (ho:s.obj H (s.W a)=true) (hp:s.pl (s.W a).toNat=(s.W a).toNat) :
  s.foll x H a=some { s.mv x (s.W a).toNat with W:=fset (s.mv x (s.W a).toNat).W a (s.free:Int),pl:=fset (s.mv x (s.W a).toNat).pl (s.W a).toNat s.free }:=by unfold Vm.foll Vm.fwd;rw[if_neg h,if_pos ho,if_pos hp];rfl
theorem ifoll_any {C:Cx}(hC:CxI C) (hMV:IMove C) {w:World}{s:Vm}{e:Nat}{cp iv ov rv:Value}(h:Pv C w s e cp iv ov rv) {ts us:List Nat}{f0:Nat}(hG:Gc C.x C.H ts f0 s us) {a:Nat}(ha:a<C.N) :
  Calls Tryz.prog 161 #[.pointer (some ⟨C.P,0,none⟩),.pointer (some ⟨C.WB,a,none⟩)] w (OptQ C w unitE s (s.foll C.x C.H a) e cp iv ov rv):=by
 have hN:=hC.hN;have hM:=hC.hM;have h4:=hC.h4;obtain⟨cw,zw⟩:=h.word ha;by_cases hz:s.W a=0
 ·rw[foll_zero hz]
  have HZ:OptQ C w unitE s (some { s with W:=fset s.W a 0 }) e cp iv ov rv unitE w:=⟨rfl,h.conv (fun b=>by show fset s.W a 0 b=s.W b;unfold fset;split;(rename_i q;rw[q,hz]);rfl) (fun _=>rfl) rfl,OnlyM.refl _ _⟩
  generalize OptQ C w unitE s (some { s with W:=fset s.W a 0 }) e cp iv ov rv=Q at *
  rw[hz]at cw;unfold unitE at HZ;clear h hG;go_enter Tryz.func161,Tryz.ntmps161;go_wp2_with fail
  go_end0;exact HZ
 have hne:(s.W a==0)=false:=by simp[hz]
 by_cases ho:s.obj C.H (s.W a)=true
 ·obtain⟨h0,hts,hus⟩:=hG.obj ho;have hr:=hG.ts_rg hts;have hend:=hG.end;have hot:=hG.other
  obtain⟨k,hk⟩:∃ k:Nat,(s.W a).toNat=12000+k:=⟨(s.W a).toNat - 12000,by omega⟩
  have hkM':k<C.M:=by omega
  have HO:Hid (Calls Tryz.prog 152 #[.pointer (some ⟨C.P,0,none⟩),.int .i64 (s.W a)] w (DrQ (.returned (.bool true)) w)):=iobj_b hC h hG.u ho
  have HL:Hid (∀ w',Later w w'→w'.cell? ⟨C.WB,a,none⟩=some (.int .i64 (s.W a))∧w'.cell? ⟨C.P,65,none⟩=some (.slice (some ⟨C.PB,0,none⟩) C.M C.M)∧w'.cell? ⟨C.PB,k,none⟩=some (.int .i64 (s.pl (12000+k):Int))∧w'.frozen? ⟨C.WB,a,none⟩=false):=fun w' l=>⟨((h.kept l).word ha).1,(h.kept l).c65.1,((h.kept l).pp.cell k hkM').1,((h.kept l).word ha).2⟩
  have hkM:(k:Int)<(C.M:Int):=by omega
  have hsub:s.W a - 12000=(k:Int):=by omega
  have hsm:s.W a≤40000:=by omega
  have hsm2:12000≤s.W a:=by omega
  by_cases hp:s.pl (s.W a).toNat=(s.W a).toNat
  ·rw[foll_move hz ho hp];have hro:=hG.room hts hp
   have HMv:Hid (∀ w',Later w w'→Calls Tryz.prog 166 #[.pointer (some ⟨C.P,0,none⟩),.int .i64 (s.W a)] w' (MvQ C w' (.returned (.int .i64 (s.free:Int))) (s.mv C.x (s.W a).toNat) e cp iv ov rv)):=fun w' l=>by
    have:=hMV (h.kept l) (a:=(s.W a).toNat) (by omega) (by omega) (by omega) hr.2.2;rw[show (((s.W a).toNat:Nat):Int)=s.W a by omega]at this;exact this
   have hfk:s.free≠12000+k:=fun q=>by rw[hk]at hr;omega
   rw[hk]at hp;have hpe:((s.pl (12000+k):Nat):Int)=s.W a:=by omega
   have HZ:Hid (∀ w2,Pv C w2 (s.mv C.x (s.W a).toNat) e cp iv ov rv→OnlyM C w w2→OptQ C w unitE s (some { s.mv C.x (s.W a).toNat with W:=fset (s.mv C.x (s.W a).toNat).W a (s.free:Int),pl:=fset (s.mv C.x (s.W a).toNat).pl (s.W a).toNat s.free }) e cp iv ov rv unitE ((w2.setCell ⟨C.PB,k,none⟩ (.int .i64 (s.free:Int))).setCell ⟨C.WB,a,none⟩ (.int .i64 (s.free:Int)))):=fun w2 p o=>by
    refine⟨rfl,?_,(o.setL _ _).setW _ _⟩;have p2:=(p.setL hC (a:=k) hkM' s.free).setW hC ha (s.free:Int);refine p2.conv (fun b=>rfl) (fun b=>?_) rfl;show fset (s.mv C.x (s.W a).toNat).pl (s.W a).toNat s.free b=fset (s.mv C.x (s.W a).toNat).pl (12000+k) s.free b;rw[←hk]
   have HC2:Hid (∀ w2,Pv C w2 (s.mv C.x (s.W a).toNat) e cp iv ov rv→w2.cell? ⟨C.PB,k,none⟩=some (.int .i64 (s.W a))∧w2.frozen? ⟨C.PB,k,none⟩=false∧w2.frozen? ⟨C.WB,a,none⟩=false∧∃ u,w2.cell? ⟨C.WB,a,none⟩=some u):=fun w2 p=>by
    have q:=p.pp.cell k hkM';have q2:=p.word ha;refine⟨?_,q.2,q2.2,_,q2.1⟩;rw[q.1,← hpe];show some (Value.int .i64 ((fset s.pl s.free s.free (12000+k):Nat):Int))=_;rw[fset_ne _ _ (Ne.symm hfk)]
   generalize OptQ C w unitE s (some { s.mv C.x (s.W a).toNat with W:=fset (s.mv C.x (s.W a).toNat).W a (s.free:Int),pl:=fset (s.mv C.x (s.W a).toNat).pl (s.W a).toNat s.free }) e cp iv ov rv=Q at *
   generalize s.mv C.x (s.W a).toNat=sm at *
   have d3:=hC.d3;clear h hG hr hend hot hro cw hN hM h4 hts hus ho hk hfk;rw[hpe]at HL;clear hp hpe
   generalize s.W a=z at *
   generalize s.free=F at *
   obtain⟨cL1,cL2,cL3,cL4⟩:=HL.out w (Later.refl _);go_enter Tryz.func161,Tryz.ntmps161;go_wp2_with fail
   refine HO.out.mono ?_;rintro n w1 ⟨rfl,j1,rfl⟩;go_wp2_with fail
   refine (stuck_yes _).mono ?_;rintro n w2 ⟨rfl,l2⟩;have l2':Later w w2:=(Later.drewN' w j1).trans l2;obtain⟨d1,d2,e3,d4⟩:=HL.out w2 l2';unfold unitE;clear cL1 cL2 cL3 cL4 l2 HO;go_wp2_with fail
   go_quiet (fail)
   go_wp2_with fail
   go_quiet (fail)
   go_wp2_with fail
   refine (HMv.out _ ?_).mono ?_
   ·first|exact l2'.trans (Later.drewN' _ _)|exact (l2'.trans (Later.drewN' _ _)).trans (Later.drewN' _ _)
   rintro n w3 ⟨rfl,p3,o3⟩;obtain⟨f1,f2,f3,u4,f4⟩:=HC2.out w3 p3;have HZ3:=HZ.out w3 p3 ((OnlyM.of_later (l2'.trans (Later.drewN' _ _))).trans o3);clear d1 d2 e3 d4 HMv HZ HC2 HL p3;unfold unitE at HZ3;go_wp2_with fail
   go_end0;exact HZ3
  ·rw[foll_moved hz ho hp]
   have HZ:Hid (∀ w2,Later w w2→OptQ C w unitE s (some { s with W:=fset s.W a (s.pl (s.W a).toNat:Int) }) e cp iv ov rv unitE (w2.setCell ⟨C.WB,a,none⟩ (.int .i64 (s.pl (12000+k):Int)))):=fun w2 l=>by
    refine⟨rfl,?_,(OnlyM.of_later l).setW _ _⟩;rw[hk];exact (h.kept l).setW hC ha _
   generalize OptQ C w unitE s (some { s with W:=fset s.W a (s.pl (s.W a).toNat:Int) }) e cp iv ov rv=Q at *
   have hpe:(((s.pl (12000+k):Nat):Int)==s.W a)=false:=by rw[hk]at hp;simp;omega
   clear h hG hr hend hot cw hN hM h4 hts hus ho hk hp
   generalize s.W a=z at *
   generalize s.pl (12000+k)=p at *
   obtain⟨cL1,cL2,cL3,cL4⟩:=HL.out w (Later.refl _);go_enter Tryz.func161,Tryz.ntmps161;go_wp2_with fail
   refine HO.out.mono ?_;rintro n w1 ⟨rfl,j1,rfl⟩;go_wp2_with fail
   refine (stuck_yes _).mono ?_;rintro n w2 ⟨rfl,l2⟩;have l2':Later w w2:=(Later.drewN' w j1).trans l2;obtain⟨d1,d2,e3,d4⟩:=HL.out w2 l2';unfold unitE;clear cL1 cL2 cL3 cL4 l2 HO;go_wp2_with fail
   go_quiet (fail)
   go_wp2_with fail
   go_quiet (fail)
   go_wp2_with fail
   unfold unitE at HZ;go_end0;exact HZ.out _ (l2'.trans (Later.drewN' w2 _))
 ·rw[foll_stuck hz (by simpa using ho)];have HO:Hid (Calls Tryz.prog 152 #[.pointer (some ⟨C.P,0,none⟩),.int .i64 (s.W a)] w (DrQ (.returned (.bool false)) w)):=iobj_b hC h hG.u (by simpa using ho)
  have HZ:Hid (∀ w2,Later w w2→OptQ C w unitE s none e cp iv ov rv (finP 7 0) w2):=fun w2 l=>⟨rfl,s,e,cp,iv,rv,h.kept l,rfl,rfl,rfl,rfl⟩
  generalize OptQ C w unitE s none e cp iv ov rv=Q at *
  clear h hG
  generalize s.W a=z at *
  go_enter Tryz.func161,Tryz.ntmps161;go_wp2_with fail
  refine HO.out.mono ?_;rintro n w1 ⟨rfl,j1,rfl⟩;go_wp2_with fail
  refine (stuck_no _).mono ?_;rintro n w2 ⟨rfl,l2⟩;have HZ3:=HZ.out w2 ((Later.drewN' w j1).trans l2);unfold finP at HZ3 ⊢;clear HZ HO;go_wp2_with fail
  exact⟨rfl,HZ3⟩
def cmpI (x y:Int):Int:=if x<y then -1 else if y<x then 1 else 0
theorem isnanI_any (x:Int) (w:World):Calls Tryz.prog 167 #[.int .i64 x] w fun e w'=>e=.returned (.bool false)∧w'=w:=by
 go_enter Tryz.func167,Tryz.ntmps167;go_wp2_with fail
 go_ret;exact⟨rfl,rfl⟩
theorem compare_any (x y:Int) (w:World):Calls Tryz.prog 165 #[.int .i64 x,.int .i64 y] w fun e w'=>e=.returned (.int .i64 (cmpI x y))∧w'=w:=by
 unfold cmpI;by_cases h1:x<y
 ·rw[if_pos h1];go_enter Tryz.func165,Tryz.ntmps165;go_wp2_with fail
  refine (isnanI_any _ _).mono ?_;rintro e w1 ⟨rfl,rfl⟩;go_wp2_with fail
  refine (isnanI_any _ _).mono ?_;rintro e w1 ⟨rfl,rfl⟩;go_wp2_with fail
  go_ret;exact⟨rfl,rfl⟩
 ·rw[if_neg h1];by_cases h2:y<x
  ·rw[if_pos h2];go_enter Tryz.func165,Tryz.ntmps165;go_wp2_with fail
   refine (isnanI_any _ _).mono ?_;rintro e w1 ⟨rfl,rfl⟩;go_wp2_with fail
   refine (isnanI_any _ _).mono ?_;rintro e w1 ⟨rfl,rfl⟩;go_wp2_with fail
   go_ret;exact⟨rfl,rfl⟩
  ·rw[if_neg h2];go_enter Tryz.func165,Tryz.ntmps165;go_wp2_with fail
   refine (isnanI_any _ _).mono ?_;rintro e w1 ⟨rfl,rfl⟩;go_wp2_with fail
   refine (isnanI_any _ _).mono ?_;rintro e w1 ⟨rfl,rfl⟩;go_wp2_with fail
   go_ret;exact⟨rfl,rfl⟩
theorem cmpMap_any (x y:Int) (v:Value) (w:World):Calls Tryz.prog 164 #[.agg #[.int .i64 x,v],.int .i64 y] w fun e w'=>e=.returned (.int .i64 (cmpI x y))∧Later w w':=by
 have HZ:Hid (Later w (w.alloc (Obj.cells #[.int .i64 x,v] 136))):=Below.alloc (Later.refl w) (Nat.le_refl _) _;go_enter Tryz.func164,Tryz.ntmps164;go_wp2_with fail
 refine (compare_any _ _ _).mono ?_;rintro e w1 ⟨rfl,rfl⟩;go_wp2_with fail
 go_ret;exact⟨rfl,HZ.out⟩
theorem mpB_pw {fr:Int}:∀ {l:List Is}{pc:Nat}{ms:List Ma},mpB fr pc l ms=true→ms.Pairwise (fun a b=>a.pc<b.pc)∧∀ m∈ms,(pc:Int)≤m.pc
 | [],pc,ms,h=>by
  have:ms=[]:=by
   unfold mpB at h
   cases ms with
   | nil=>rfl
   | cons m t=>simp at h;omega
  subst this;exact⟨List.Pairwise.nil,fun m hm=>by cases hm⟩
 | j::r,pc,ms,h=>by
  cases hj:hmB j.op with
  | false =>
   rw[mpB_skip hj]at h;have:=mpB_pw h;exact⟨this.1,fun m hm=>by have:=this.2 m hm;omega⟩
  | true =>
   cases ms with
   | nil=>rw[mpB_none hj]at h;cases h
   | cons m t =>
    rw[mpB_some hj]at h;simp only[Bool.and_eq_true,beq_iff_eq]at h;have:=mpB_pw h.2.2;refine⟨List.pairwise_cons.2 ⟨fun b hb=>?_,this.1⟩,fun b hb=>?_⟩
    ·have:=this.2 b hb;omega
    ·rcases List.mem_cons.1 hb with rfl|hb
     ·omega
     ·have:=this.2 b hb;omega
theorem search_any {w:World}{v:Value}{l:List Ma}(h:RdL w 2 v (Ma.dats l)) (hl:l.length≤40000) (hs:l.Pairwise (fun a b=>a.pc<b.pc)) {q:Nat}(hq:q<l.length) :
  Calls Tryz.prog 163 #[v,.int .i64 l[q].pc,.func (.func 164) #[] #[]] w fun e w'=>∃ b,e=.returned (.tuple #[.int .i64 (q:Int),.bool b])∧Later w w':=by
 obtain⟨sa,sc,rfl,_⟩:=Ma.slice h
 have HE:Hid (∀ j (hj:j<l.length),∃ g off v0,sa=some ⟨g,off,none⟩∧(∀ w',Later w w'→w'.cell? ⟨g,off+j*2,none⟩=some (.int .i64 l[j].pc)∧w'.cell? ⟨g,off+j*2+1,none⟩=some v0)):=fun j hj=>by
  obtain⟨g,off,v0,rfl,hg,h1,h2,_⟩:=Ma.elem h j hj;exact⟨g,off,v0,rfl,fun w' lt=>⟨(Below.cell lt (p:=⟨g,off+j*2,none⟩) hg).trans h1,(Below.cell lt (p:=⟨g,off+j*2+1,none⟩) hg).trans h2⟩⟩
 have hlt:∀ j (hj:j<l.length),j<q→l[j].pc<l[q].pc:=fun j hj hjq=>List.pairwise_iff_getElem.1 hs j q hj hq hjq;have hgt:∀ j (hj:j<l.length),q<j→l[q].pc<l[j].pc:=fun j hj hjq=>List.pairwise_iff_getElem.1 hs q j hq hj hjq
 have HO:Hid (∀ j (hj:j<l.length),(j<q→cmpI l[j].pc l[q].pc=-1)∧(¬ j<q→¬ cmpI l[j].pc l[q].pc<0)):=fun j hj=>by
  refine⟨fun hjq=>?_,fun hjq=>?_⟩
  ·unfold cmpI;rw[if_pos (hlt j hj hjq)]
  ·unfold cmpI;rcases Nat.lt_or_ge q j with k|k
   ·rw[if_neg (by have:=hgt j hj k;omega),if_pos (hgt j hj k)];omega
   ·obtain rfl:j=q:=by omega
    rw[if_neg (by omega),if_neg (by omega)];omega
 generalize l[q].pc=tg at *
 clear h hs hlt hgt;go_enter Tryz.func163,Tryz.ntmps163;go_wp2_with fail
 go_loopw [9,10] (fun i j wr=>∃ a b:Nat,i=.int .i64 (a:Int)∧j=.int .i64 (b:Int)∧a≤q∧q≤b∧b≤l.length∧Later w wr) (fun i j _=>(intOf j).toNat - (intOf i).toNat)
 case atStart=>exact⟨0,l.length,rfl,rfl,by omega,by omega,by omega,Later.refl _⟩
 case round =>
  obtain⟨a,b,rfl,rfl,h1,h2,h3,lr⟩:=hrel;by_cases hab:a<b
  ·have i1:(a:Int)<(b:Int):=by omega
   obtain⟨m,hm⟩:∃ m,m=(a+b) / 2:=⟨_,rfl⟩
   have hm1:m<l.length:=by omega
   obtain⟨g,off,v0,rfl,hc⟩:=HE.out m hm1;obtain⟨c0,c1⟩:=hc _ lr;have hsh:((a:Int)+(b:Int)) / 2=(m:Int):=by omega
   have hcc:=HO.out _ hm1;have i2:(m:Int)<(l.length:Int):=by omega
   generalize l[m].pc=pm at *
   have i3:(a:Int)+(b:Int)≤100000:=by omega
   have HM:Hid (a≤m∧m<b):=⟨by omega,by omega⟩
   clear hm;go_wp2_with fail
   refine (cmpMap_any _ _ _ _).mono ?_;rintro e w1 ⟨rfl,l1⟩;have lr1:=lr.trans l1
   generalize cmpI pm tg=cm at *
   by_cases hmq:m<q
   ·have hcm:=hcc.1 hmq;clear hcc hc c0 c1 l1;subst hcm;go_wp2_with fail
    go_roundw
    case rel=>exact⟨m+1,b,by go_num,rfl,by omega,h2,h3,lr1⟩
    case measure=>have:=HM.out;simp[intOf];omega
   ·have hcm:0≤cm:=by have:=hcc.2 hmq;omega
    clear hcc hc c0 c1 l1;go_wp2_with fail
    go_roundw
    case rel=>exact⟨a,m,rfl,rfl,h1,by omega,by omega,lr1⟩
    case measure=>have:=HM.out;simp[intOf];omega
  ·obtain rfl:a=q:=by omega
   have i1:¬ ((a:Int)<(b:Int)):=by omega
   have i2:(a:Int)<(l.length:Int):=by omega
   obtain⟨g,off,v0,rfl,hc⟩:=HE.out a hq;obtain⟨c0,c1⟩:=hc _ lr
   generalize l[a].pc=pm at *
   clear hc;go_wp2_with fail
   refine (cmpMap_any _ _ _ _).mono ?_;rintro e w1 ⟨rfl,l1⟩;have lr1:=lr.trans l1
   generalize cmpI pm tg=cm at *
   clear c0 c1 l1;go_wp2_with fail
   go_ret2;exact⟨_,rfl,lr1⟩
theorem cd_at {C:Cx}(hC:CxI C) {n:Nat}(hn:n<C.x.codes.length):∃ v0 v1,(∀ w',Later C.w0 w'→w'.cell? ⟨C.cg,C.co+n*4,none⟩=some (.int .i64 (cdAt C.x n).frame)∧w'.cell? ⟨C.cg,C.co+n*4+1,none⟩=some (.int .i64 (cdAt C.x n).params)∧w'.cell? ⟨C.cg,C.co+n*4+2,none⟩=some v0∧w'.cell? ⟨C.cg,C.co+n*4+3,none⟩=some v1)∧RdL C.w0 5 v0 (Is.dats (cdAt C.x n).ins)∧RdL C.w0 2 v1 (Ma.dats (cdAt C.x n).maps):=by
 obtain⟨g,off,v0,v1,e,hg,h1,h2,h3,h4,h5,h6⟩:=Cd.elem hC.cd n hn
 cases e
 rw[cdAt_eq hn];exact⟨v0,v1,fun w' l=>⟨(Below.cell l (p:=⟨C.cg,C.co+n*4,none⟩) hg).trans h1,(Below.cell l (p:=⟨C.cg,C.co+n*4+1,none⟩) hg).trans h2,(Below.cell l (p:=⟨C.cg,C.co+n*4+2,none⟩) hg).trans h3,(Below.cell l (p:=⟨C.cg,C.co+n*4+3,none⟩) hg).trans h4⟩,h5,h6⟩
theorem mpB_len {fr:Int}:∀ {l:List Is}{pc:Nat}{ms:List Ma},mpB fr pc l ms=true→ms.length≤l.length
 | [],pc,ms,h=>by
  unfold mpB at h;simp at h;simp[h]
 | j::r,pc,ms,h=>by
  cases hj:hmB j.op with
  | false =>
   rw[mpB_skip hj]at h;have:=mpB_len h;rw[List.length_cons];omega
  | true =>
   cases ms with
   | nil=>simp
   | cons m t =>
    rw[mpB_some hj]at h;simp only[Bool.and_eq_true,beq_iff_eq]at h;have:=mpB_len h.2.2;rw[List.length_cons,List.length_cons];omega
def SlQ (C:Cx) (w:World) (l:List Int) (e:Ending) (w':World):Prop:=∃ v,e=.returned v∧RdL C.w0 1 v (In.dats l)∧Later w w'
theorem islots_any {C:Cx}(hC:CxI C) {w:World}(hw:Later C.w0 w) {n:Nat}(hn:n<C.x.codes.length) {pc:Int}(hs:SafeAt C.x n pc) :
  Calls Tryz.prog 160 #[codeP C n,.int .i64 pc] w (SlQ C w (mapAt (cdAt C.x n) pc)):=by
 have hI:=hC.xi.at hn;obtain⟨m,hm,hpc,hfind,hat,hsl⟩:=hs.map hI;obtain⟨q,hq,rfl⟩:=List.mem_iff_getElem.1 hm;obtain⟨v0,v1,hcs,_,hR⟩:=cd_at hC hn;rw[hat];have hpw:=(mpB_pw hI.mp).1;have hml:(cdAt C.x n).maps.length≤40000:=by have:=mpB_len hI.mp;have:=hI.i6;omega
 have HS:Hid (Calls Tryz.prog 163 #[v1,.int .i64 pc,.func (.func 164) #[] #[]] w fun e w'=>∃ b,e=.returned (.tuple #[.int .i64 (q:Int),.bool b])∧Later w w'):=by
  have:=search_any (hR.later hw) hml hpw hq;rw[hpc]at this;exact this
 obtain⟨sa,sc,rfl,_⟩:=Ma.slice hR;obtain⟨g,off,u0,rfl,hg,e1,e2,hr⟩:=Ma.elem hR q hq
 have HL:Hid (∀ w',Later C.w0 w'→w'.cell? ⟨C.cg,C.co+n*4+3,none⟩=some (.slice (some ⟨g,off,none⟩) (cdAt C.x n).maps.length sc)∧w'.cell? ⟨g,off+q*2+1,none⟩=some u0):=fun w' l=>⟨(hcs w' l).2.2.2,(Below.cell l (p:=⟨g,off+q*2+1,none⟩) hg).trans e2⟩
 obtain⟨c3,c4⟩:=HL.out w hw;have i1:(q:Int)<((cdAt C.x n).maps.length:Int):=by omega
 have HZ:Hid (∀ w',Later w w'→SlQ C w (cdAt C.x n).maps[q].slots (.returned u0) w'):=fun w' l=>⟨u0,rfl,hr,l⟩
 generalize SlQ C w (cdAt C.x n).maps[q].slots=Q at *
 clear hR hr e1 e2 hcs hpw hI hfind hat hsl hm hs hpc hml
 revert HS HL c3 i1
 generalize (cdAt C.x n).maps.length=L
 intro HS HL c3 i1;unfold codeP;go_enter Tryz.func160,Tryz.ntmps160;go_wp2_with fail
 refine HS.out.mono ?_;rintro e w1 ⟨b,rfl,l1⟩;obtain⟨d3,d4⟩:=HL.out w1 (hw.trans l1);have HZ1:=HZ.out w1 l1;clear c3 c4 HS HL HZ;go_wp2_with fail
 exact HZ1
end Go.Proofs.YtjnpncefkigcbaaGreat
