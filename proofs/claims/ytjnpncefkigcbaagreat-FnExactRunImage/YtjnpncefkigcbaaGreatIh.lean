import Derived.Test.YtjnpncefkigcbaaGreatHj
import Derived.Test.YtjnpncefkigcbaaGreatHk
import Derived.Test.YtjnpncefkigcbaaGreatIg
import Derived.Test.YtjnpncefkigcbaaGreatHn
set_option maxHeartbeats 100000000
set_option maxRecDepth 100000
namespace Go.Proofs.YtjnpncefkigcbaaGreat
open Go.RowKit Go.Lib Go.Maps
structure Mx where
 x:Im
 H:Nat
 w0:World
 K:Nat
 WB:Nat
 SB:Nat
 RB:Nat
 IB:Nat
 sv:Value
 cg:Nat
 co:Nat
 cc:Nat
 rv:Value
 orc:List Int
 N:Nat
structure MxI (C:Mx):Prop where
 xi:ImI C.x
 h8:8≤C.H
 h4:C.H≤4000
 p1:C.w0.heap.size≤C.K
 p2:C.w0.heap.size≤C.WB
 p3:C.w0.heap.size≤C.SB
 p4:C.w0.heap.size≤C.RB
 d1:C.K≠C.WB
 d2:C.K≠C.SB
 d3:C.K≠C.RB
 d4:C.WB≠C.SB
 d5:C.WB≠C.RB
 d6:C.SB≠C.RB
 i1:C.IB≠C.K
 i2:C.IB≠C.WB
 i3:C.IB≠C.SB
 i4:C.IB≠C.RB
 hN:C.N=12000+2*C.H
 ol:C.orc.length≤2000
 st:RdL C.w0 1 C.sv (Bs.dats C.x.structs)
 cd:RdL C.w0 4 (.slice (some ⟨C.cg,C.co,none⟩) C.x.codes.length C.cc) (Cd.dats C.x.codes)
 rp:RdL C.w0 1 C.rv (In.dats C.orc)
structure Mq where
 W:Nat→Int
 pc:Int
 ev:Nat
 en:Int
 cd:Int
def boxM (C:Mx) (s:Vm) (q:Mq) (iv ov:Value) (a:Nat):Value :=
 match a with
 | 0=>C.sv
 | 1=>.slice (some ⟨C.cg,C.co,none⟩) C.x.codes.length C.cc
 | 2=>.int .i64 C.x.main
 | 3=>.slice (some ⟨C.WB,0,none⟩) C.N C.N
 | 4=>.slice (some ⟨C.SB,0,none⟩) C.N C.N
 | 5=>.int .i64 (C.H:Int)
 | 6=>.int .i64 (s.used:Int)
 | 7=>.int .i64 (s.free:Int)
 | 8=>.int .i64 (s.base:Int)
 | 9=>.int .i64 (s.size:Int)
 | 10=>.int .i64 (s.fp:Int)
 | 11=>.int .i64 (s.fn:Int)
 | 12=>.int .i64 q.pc
 | 13=>.int .i64 (s.calls:Int)
 | 14=>.slice (some ⟨C.RB,0,none⟩) 16 16
 | 15=>iv
 | 16=>C.rv
 | 17=>.int .i64 (q.ev:Int)
 | 18=>ov
 | 19=>.int .i64 (s.steps:Int)
 | 20=>.int .i64 (s.moves:Int)
 | 21=>.int .i64 (s.copies:Int)
 | 22=>.int .i64 q.en
 | 23=>.int .i64 q.cd
 | _=>.int .i64 0
structure Mv (C:Mx) (w:World) (s:Vm) (q:Mq) (iv ov:Value):Prop where
 lat:Later C.w0 w
 box:Blk w C.K 24 (boxM C s q iv ov)
 wd:Blk w C.WB C.N (fun a=>.int .i64 (q.W a))
 sd:Blk w C.SB C.N (fun a=>.bool (s.pl a != 0))
 rd:Blk w C.RB 16 (fun a=>.int .i64 (s.rg a))
 ip:RdL w 1 iv (In.dats s.inp)
 ib:∀ a n c,iv=.slice (some a) n c→a.block=C.IB
 op:w.ownsRow C.w0.heap.size 125 2 ov s.out.length (itemsL s.out)
 on:ov.ownBlock≠some C.K∧ov.ownBlock≠some C.WB∧ov.ownBlock≠some C.SB∧ov.ownBlock≠some C.RB∧ov.ownBlock≠some C.IB
theorem rdin_kept {w w':World}{iv:Value}{l:List Int}{B:Nat}(h:RdL w 1 iv (In.dats l)) (hb:∀ a n c,iv=.slice (some a) n c→a.block=B) (hs:w.heap.size≤w'.heap.size) (hk:B<w.heap.size→w'.heap[B]?=w.heap[B]?):RdL w' 1 iv (In.dats l):=by
 obtain⟨a,c,e,hl,hd⟩:=h;refine⟨a,c,e,hl,fun j hj=>?_⟩;obtain⟨g,off,cs,e2,hg,hk2,hc,hr⟩:=hd j hj;have hgB:g=B:=by rw[e2]at e;exact hb _ _ _ e
 subst hgB;refine⟨g,off,cs,e2,Nat.lt_of_lt_of_le hg hs,hk2,fun m u hm=>?_,?_⟩
 ·rw[World.cell?_of_block (w:=w) (w':=w') (a:=⟨g,off+j*1+m,none⟩) (hk hg)];exact hc m u hm
 ·have hdat:(In.dats l)[j]=Dat.int (l[j]'(by rw[←In.dats_len l];exact hj)):=List.getElem_map ..
  rw[hdat]at hr ⊢;rw[RdD]at hr ⊢;exact hr
structure OnlyL (C:Mx) (w w':World):Prop where
 size:w.heap.size≤w'.heap.size
 block:∀ k,k<w.heap.size→k≠C.K→k≠C.WB→k≠C.SB→k≠C.RB→w'.heap[k]?=w.heap[k]?
theorem OnlyL.refl (C:Mx) (w:World):OnlyL C w w:=⟨Nat.le_refl _,fun _ _ _ _ _ _=>rfl⟩
theorem OnlyL.trans {C:Mx}{a b c:World}(h:OnlyL C a b) (k:OnlyL C b c):OnlyL C a c:=⟨Nat.le_trans h.size k.size,fun i hi h1 h2 h3 h4=>(k.block i (Nat.lt_of_lt_of_le hi h.size) h1 h2 h3 h4).trans (h.block i hi h1 h2 h3 h4)⟩
theorem OnlyL.of_later {C:Mx}{w w':World}(h:Later w w'):OnlyL C w w':=⟨h.size,fun i hi _ _ _ _=>h.block i hi⟩
theorem OnlyL.setK {C:Mx}{a w:World}(h:OnlyL C a w) (o:Nat) (v:Value):OnlyL C a (w.setCell ⟨C.K,o,none⟩ v):=h.trans ⟨by rw[World.size_setCell];exact Nat.le_refl _,fun _ _ h1 _ _ _=>Below.heap_setCell _ _ _ _ h1⟩
theorem OnlyL.setW {C:Mx}{a w:World}(h:OnlyL C a w) (o:Nat) (v:Value):OnlyL C a (w.setCell ⟨C.WB,o,none⟩ v):=h.trans ⟨by rw[World.size_setCell];exact Nat.le_refl _,fun _ _ _ h1 _ _=>Below.heap_setCell _ _ _ _ h1⟩
theorem OnlyL.setS {C:Mx}{a w:World}(h:OnlyL C a w) (o:Nat) (v:Value):OnlyL C a (w.setCell ⟨C.SB,o,none⟩ v):=h.trans ⟨by rw[World.size_setCell];exact Nat.le_refl _,fun _ _ _ _ h1 _=>Below.heap_setCell _ _ _ _ h1⟩
theorem OnlyL.setR {C:Mx}{a w:World}(h:OnlyL C a w) (o:Nat) (v:Value):OnlyL C a (w.setCell ⟨C.RB,o,none⟩ v):=h.trans ⟨by rw[World.size_setCell];exact Nat.le_refl _,fun _ _ _ _ _ h1=>Below.heap_setCell _ _ _ _ h1⟩
theorem Mv.kept {C:Mx}{w w':World}{s:Vm}{q:Mq}{iv ov:Value}(h:Mv C w s q iv ov) (hl:Later w w'):Mv C w' s q iv ov :=
 ⟨h.lat.trans hl,h.box.kept hl.size (hl.block _ h.box.lt),h.wd.kept hl.size (hl.block _ h.wd.lt),h.sd.kept hl.size (hl.block _ h.sd.lt),h.rd.kept hl.size (hl.block _ h.rd.lt),rdin_kept h.ip h.ib hl.size (hl.block _),h.ib,own_kept h.op (fun b hb=>hl.block b (h.op.lt b hb).2),h.on⟩
theorem Mv.setK {C:Mx}(hC:MxI C) {w:World}{s s':Vm}{q q':Mq}{iv ov:Value}(h:Mv C w s q iv ov) {o:Nat}{v:Value}(ho:o<24) (hv:∀ a,a<24→boxM C s' q' iv ov a=fset (boxM C s q iv ov) o v a)
  (h1:q'.W=q.W) (h2:s'.pl=s.pl) (h3:s'.inp=s.inp) (h4:s'.rg=s.rg) (h5:s'.out=s.out):Mv C (w.setCell ⟨C.K,o,none⟩ v) s' q' iv ov :=
 ⟨h.lat.setNew hC.p1 _ _,(h.box.set ho v).agree hv,by rw[h1];exact h.wd.far hC.d1 _ _,by rw[h2];exact h.sd.far hC.d2 _ _,by rw[h4];exact h.rd.far hC.d3 _ _,by rw[h3];exact rdin_kept h.ip h.ib (by rw[World.size_setCell];exact Nat.le_refl _) (fun _=>Below.heap_setCell _ _ _ _ hC.i1),h.ib,by rw[h5];exact own_kept h.op (fun b hb=>Below.heap_setCell _ _ _ _ (fun z:b=C.K=>h.on.1 (z ▸ hb))),h.on⟩
theorem Mv.setW {C:Mx}(hC:MxI C) {w:World}{s:Vm}{q:Mq}{iv ov:Value}(h:Mv C w s q iv ov) {a:Nat}(ha:a<C.N) (z:Int):Mv C (w.setCell ⟨C.WB,a,none⟩ (.int .i64 z)) s { q with W:=fset q.W a z } iv ov :=
 ⟨h.lat.setNew hC.p2 _ _,h.box.far (Ne.symm hC.d1) _ _,(h.wd.set ha _).agree (fun b _=>by unfold fset;show Value.int .i64 (if b=a then z else q.W b)=_;split <;> rfl),h.sd.far hC.d4 _ _,h.rd.far hC.d5 _ _,rdin_kept h.ip h.ib (by rw[World.size_setCell];exact Nat.le_refl _) (fun _=>Below.heap_setCell _ _ _ _ hC.i2),h.ib,own_kept h.op (fun b hb=>Below.heap_setCell _ _ _ _ (fun z:b=C.WB=>h.on.2.1 (z ▸ hb))),h.on⟩
theorem Mv.setS {C:Mx}(hC:MxI C) {w:World}{s s':Vm}{q:Mq}{iv ov:Value}(h:Mv C w s q iv ov) {a:Nat}(ha:a<C.N) {v:Bool}(e:s'={ s with pl:=s'.pl }) (hp:∀ b,b<C.N→(s'.pl b != 0)=if b=a then v else (s.pl b != 0)):Mv C (w.setCell ⟨C.SB,a,none⟩ (.bool v)) s' q iv ov:=by
 rw[e]
 exact⟨h.lat.setNew hC.p3 _ _,h.box.far (Ne.symm hC.d2) _ _,h.wd.far (Ne.symm hC.d4) _ _,(h.sd.set ha _).agree (fun b hb=>by
  show Value.bool (s'.pl b != 0)=_;rw[hp b hb];unfold fset
  split <;> rfl),h.rd.far hC.d6 _ _,rdin_kept h.ip h.ib (by rw[World.size_setCell];exact Nat.le_refl _) (fun _=>Below.heap_setCell _ _ _ _ hC.i3),h.ib,own_kept h.op (fun b hb=>Below.heap_setCell _ _ _ _ (fun z:b=C.SB=>h.on.2.2.1 (z ▸ hb))),h.on⟩
theorem Mv.setR {C:Mx}(hC:MxI C) {w:World}{s:Vm}{q:Mq}{iv ov:Value}(h:Mv C w s q iv ov) {a:Nat}(ha:a<16) (z:Int):Mv C (w.setCell ⟨C.RB,a,none⟩ (.int .i64 z)) { s with rg:=fset s.rg a z } q iv ov :=
 ⟨h.lat.setNew hC.p4 _ _,h.box.far (Ne.symm hC.d3) _ _,h.wd.far (Ne.symm hC.d5) _ _,h.sd.far (Ne.symm hC.d6) _ _,(h.rd.set ha _).agree (fun b _=>by unfold fset;show Value.int .i64 (if b=a then z else s.rg b)=_;split <;> rfl),rdin_kept h.ip h.ib (by rw[World.size_setCell];exact Nat.le_refl _) (fun _=>Below.heap_setCell _ _ _ _ hC.i4),h.ib,own_kept h.op (fun b hb=>Below.heap_setCell _ _ _ _ (fun z:b=C.RB=>h.on.2.2.2.1 (z ▸ hb))),h.on⟩
theorem Mv.at {C:Mx}{w:World}{s:Vm}{q:Mq}{iv ov:Value}(h:Mv C w s q iv ov) (o:Nat) {v:Value}(ho:o<24) (hv:boxM C s q iv ov o=v):w.cell? ⟨C.K,o,none⟩=some v∧w.frozen? ⟨C.K,o,none⟩=false:=by rw[←hv];exact h.box.cell o ho
theorem Mv.reg {C:Mx}{w:World}{s:Vm}{q:Mq}{iv ov:Value}(h:Mv C w s q iv ov) {a:Nat}(ha:a<16):w.cell? ⟨C.RB,a,none⟩=some (.int .i64 (s.rg a))∧w.frozen? ⟨C.RB,a,none⟩=false:=h.rd.cell a ha
theorem Mv.word {C:Mx}{w:World}{s:Vm}{q:Mq}{iv ov:Value}(h:Mv C w s q iv ov) {a:Nat}(ha:a<C.N):w.cell? ⟨C.WB,a,none⟩=some (.int .i64 (q.W a))∧w.frozen? ⟨C.WB,a,none⟩=false:=h.wd.cell a ha
theorem Mv.mark {C:Mx}{w:World}{s:Vm}{q:Mq}{iv ov:Value}(h:Mv C w s q iv ov) {a:Nat}(ha:a<C.N):w.cell? ⟨C.SB,a,none⟩=some (.bool (s.pl a != 0))∧w.frozen? ⟨C.SB,a,none⟩=false:=h.sd.cell a ha
theorem Mv.c0 {C:Mx}{w:World}{s:Vm}{q:Mq}{iv ov:Value}(h:Mv C w s q iv ov):w.cell? ⟨C.K,0,none⟩=some (C.sv)∧w.frozen? ⟨C.K,0,none⟩=false:=h.at 0 (by decide) rfl
theorem Mv.c1 {C:Mx}{w:World}{s:Vm}{q:Mq}{iv ov:Value}(h:Mv C w s q iv ov):w.cell? ⟨C.K,1,none⟩=some (.slice (some ⟨C.cg,C.co,none⟩) C.x.codes.length C.cc)∧w.frozen? ⟨C.K,1,none⟩=false:=h.at 1 (by decide) rfl
theorem Mv.c2 {C:Mx}{w:World}{s:Vm}{q:Mq}{iv ov:Value}(h:Mv C w s q iv ov):w.cell? ⟨C.K,2,none⟩=some (.int .i64 C.x.main)∧w.frozen? ⟨C.K,2,none⟩=false:=h.at 2 (by decide) rfl
theorem Mv.c3 {C:Mx}{w:World}{s:Vm}{q:Mq}{iv ov:Value}(h:Mv C w s q iv ov):w.cell? ⟨C.K,3,none⟩=some (.slice (some ⟨C.WB,0,none⟩) C.N C.N)∧w.frozen? ⟨C.K,3,none⟩=false:=h.at 3 (by decide) rfl
theorem Mv.c4 {C:Mx}{w:World}{s:Vm}{q:Mq}{iv ov:Value}(h:Mv C w s q iv ov):w.cell? ⟨C.K,4,none⟩=some (.slice (some ⟨C.SB,0,none⟩) C.N C.N)∧w.frozen? ⟨C.K,4,none⟩=false:=h.at 4 (by decide) rfl
theorem Mv.c5 {C:Mx}{w:World}{s:Vm}{q:Mq}{iv ov:Value}(h:Mv C w s q iv ov):w.cell? ⟨C.K,5,none⟩=some (.int .i64 (C.H:Int))∧w.frozen? ⟨C.K,5,none⟩=false:=h.at 5 (by decide) rfl
theorem Mv.c6 {C:Mx}{w:World}{s:Vm}{q:Mq}{iv ov:Value}(h:Mv C w s q iv ov):w.cell? ⟨C.K,6,none⟩=some (.int .i64 (s.used:Int))∧w.frozen? ⟨C.K,6,none⟩=false:=h.at 6 (by decide) rfl
theorem Mv.c7 {C:Mx}{w:World}{s:Vm}{q:Mq}{iv ov:Value}(h:Mv C w s q iv ov):w.cell? ⟨C.K,7,none⟩=some (.int .i64 (s.free:Int))∧w.frozen? ⟨C.K,7,none⟩=false:=h.at 7 (by decide) rfl
theorem Mv.c8 {C:Mx}{w:World}{s:Vm}{q:Mq}{iv ov:Value}(h:Mv C w s q iv ov):w.cell? ⟨C.K,8,none⟩=some (.int .i64 (s.base:Int))∧w.frozen? ⟨C.K,8,none⟩=false:=h.at 8 (by decide) rfl
theorem Mv.c9 {C:Mx}{w:World}{s:Vm}{q:Mq}{iv ov:Value}(h:Mv C w s q iv ov):w.cell? ⟨C.K,9,none⟩=some (.int .i64 (s.size:Int))∧w.frozen? ⟨C.K,9,none⟩=false:=h.at 9 (by decide) rfl
theorem Mv.c10 {C:Mx}{w:World}{s:Vm}{q:Mq}{iv ov:Value}(h:Mv C w s q iv ov):w.cell? ⟨C.K,10,none⟩=some (.int .i64 (s.fp:Int))∧w.frozen? ⟨C.K,10,none⟩=false:=h.at 10 (by decide) rfl
theorem Mv.c11 {C:Mx}{w:World}{s:Vm}{q:Mq}{iv ov:Value}(h:Mv C w s q iv ov):w.cell? ⟨C.K,11,none⟩=some (.int .i64 (s.fn:Int))∧w.frozen? ⟨C.K,11,none⟩=false:=h.at 11 (by decide) rfl
theorem Mv.c12 {C:Mx}{w:World}{s:Vm}{q:Mq}{iv ov:Value}(h:Mv C w s q iv ov):w.cell? ⟨C.K,12,none⟩=some (.int .i64 q.pc)∧w.frozen? ⟨C.K,12,none⟩=false:=h.at 12 (by decide) rfl
theorem Mv.c13 {C:Mx}{w:World}{s:Vm}{q:Mq}{iv ov:Value}(h:Mv C w s q iv ov):w.cell? ⟨C.K,13,none⟩=some (.int .i64 (s.calls:Int))∧w.frozen? ⟨C.K,13,none⟩=false:=h.at 13 (by decide) rfl
theorem Mv.c14 {C:Mx}{w:World}{s:Vm}{q:Mq}{iv ov:Value}(h:Mv C w s q iv ov):w.cell? ⟨C.K,14,none⟩=some (.slice (some ⟨C.RB,0,none⟩) 16 16)∧w.frozen? ⟨C.K,14,none⟩=false:=h.at 14 (by decide) rfl
theorem Mv.c15 {C:Mx}{w:World}{s:Vm}{q:Mq}{iv ov:Value}(h:Mv C w s q iv ov):w.cell? ⟨C.K,15,none⟩=some (iv)∧w.frozen? ⟨C.K,15,none⟩=false:=h.at 15 (by decide) rfl
theorem Mv.c16 {C:Mx}{w:World}{s:Vm}{q:Mq}{iv ov:Value}(h:Mv C w s q iv ov):w.cell? ⟨C.K,16,none⟩=some (C.rv)∧w.frozen? ⟨C.K,16,none⟩=false:=h.at 16 (by decide) rfl
theorem Mv.c17 {C:Mx}{w:World}{s:Vm}{q:Mq}{iv ov:Value}(h:Mv C w s q iv ov):w.cell? ⟨C.K,17,none⟩=some (.int .i64 (q.ev:Int))∧w.frozen? ⟨C.K,17,none⟩=false:=h.at 17 (by decide) rfl
theorem Mv.c18 {C:Mx}{w:World}{s:Vm}{q:Mq}{iv ov:Value}(h:Mv C w s q iv ov):w.cell? ⟨C.K,18,none⟩=some (ov)∧w.frozen? ⟨C.K,18,none⟩=false:=h.at 18 (by decide) rfl
theorem Mv.c19 {C:Mx}{w:World}{s:Vm}{q:Mq}{iv ov:Value}(h:Mv C w s q iv ov):w.cell? ⟨C.K,19,none⟩=some (.int .i64 (s.steps:Int))∧w.frozen? ⟨C.K,19,none⟩=false:=h.at 19 (by decide) rfl
theorem Mv.c20 {C:Mx}{w:World}{s:Vm}{q:Mq}{iv ov:Value}(h:Mv C w s q iv ov):w.cell? ⟨C.K,20,none⟩=some (.int .i64 (s.moves:Int))∧w.frozen? ⟨C.K,20,none⟩=false:=h.at 20 (by decide) rfl
theorem Mv.c21 {C:Mx}{w:World}{s:Vm}{q:Mq}{iv ov:Value}(h:Mv C w s q iv ov):w.cell? ⟨C.K,21,none⟩=some (.int .i64 (s.copies:Int))∧w.frozen? ⟨C.K,21,none⟩=false:=h.at 21 (by decide) rfl
theorem Mv.c22 {C:Mx}{w:World}{s:Vm}{q:Mq}{iv ov:Value}(h:Mv C w s q iv ov):w.cell? ⟨C.K,22,none⟩=some (.int .i64 q.en)∧w.frozen? ⟨C.K,22,none⟩=false:=h.at 22 (by decide) rfl
theorem Mv.c23 {C:Mx}{w:World}{s:Vm}{q:Mq}{iv ov:Value}(h:Mv C w s q iv ov):w.cell? ⟨C.K,23,none⟩=some (.int .i64 q.cd)∧w.frozen? ⟨C.K,23,none⟩=false:=h.at 23 (by decide) rfl
def MQ (C:Mx) (w:World) (n0:Ending) (s:Vm) (q:Mq) (iv ov:Value) (n:Ending) (w':World):Prop:=n=n0∧Mv C w' s q iv ov∧OnlyL C w w'
def Mq.stop (q:Mq) (e c:Int):Mq:=if q.en=0 then { q with en:=e,cd:=c } else q
theorem lstop_any {C:Mx}(hC:MxI C) {w:World}{s:Vm}{q:Mq}{iv ov:Value}(h:Mv C w s q iv ov) (e c:Int) :
  Calls Tryz.prog 23 #[.pointer (some ⟨C.K,0,none⟩),.int .i64 e,.int .i64 c] w (MQ C w unitE s (q.stop e c) iv ov):=by
 obtain⟨c22,z22⟩:=h.c22;obtain⟨c23,z23⟩:=h.c23;by_cases hz:q.en=0
 ·have HZ:MQ C w unitE s (q.stop e c) iv ov unitE ((w.setCell ⟨C.K,22,none⟩ (.int .i64 e)).setCell ⟨C.K,23,none⟩ (.int .i64 c)):=by
   refine⟨rfl,?_,((OnlyL.refl C w).setK _ _).setK _ _⟩;unfold Mq.stop;rw[if_pos hz];have a:=h.setK hC (s':=s) (q':={ q with en:=e }) (o:=22) (v:=.int .i64 e) (by decide) (map_ext rfl) rfl rfl rfl rfl rfl;exact a.setK hC (s':=s) (q':={ q with en:=e,cd:=c }) (o:=23) (v:=.int .i64 c) (by decide) (map_ext rfl) rfl rfl rfl rfl rfl
  generalize MQ C w unitE s (q.stop e c) iv ov=Q at *
  rw[hz]at c22;clear h;unfold unitE at HZ;go_enter Tryz.func23,Tryz.ntmps23;go_wp2_with fail
  go_end0;exact HZ
 ·have HZ:MQ C w unitE s (q.stop e c) iv ov unitE w:=by
   refine⟨rfl,?_,OnlyL.refl C w⟩;unfold Mq.stop;rw[if_neg hz];exact h
  generalize MQ C w unitE s (q.stop e c) iv ov=Q at *
  have hne:(q.en==0)=false:=by simp[hz]
  clear h;unfold unitE at HZ;go_enter Tryz.func23,Tryz.ntmps23;go_wp2_with fail
  go_end0;exact HZ
def Mx.cx (C:Mx):Cx:={ x:=C.x,H:=C.H,w0:=C.w0,P:=C.K,WB:=C.WB,PB:=C.SB,sv:=C.sv,cg:=C.cg,co:=C.co,cc:=C.cc,fuel:=0,N:=C.N,M:=2*C.H,kb:=fun _=>False,kw:=C.w0 }
theorem MxI.cx {C:Mx}(h:MxI C):CxI C.cx:=⟨h.xi,h.h8,h.h4,h.p1,h.p2,h.p3,h.d1,h.d2,h.d4,Nat.zero_le _,h.hN,rfl,h.st,h.cd,id,id,id⟩
theorem levent_any {C:Mx}(hC:MxI C) {w:World}{s:Vm}{q:Mq}{iv ov:Value}(h:Mv C w s q iv ov) (he:q.ev≤1000000) :
  Calls Tryz.prog 121 #[.pointer (some ⟨C.K,0,none⟩)] w (MQ C w (.returned (.int .i64 ((C.orc.drop q.ev).headD 0))) s { q with ev:=q.ev+1 } iv ov):=by
 obtain⟨c17,z17⟩:=h.c17;obtain⟨c16,z16⟩:=h.c16;have hrp:=hC.rp;obtain⟨ra,rc,hrv,hrl⟩:=In.slice hrp;rw[hrv]at c16 hrp
 obtain⟨e1,he1⟩:∃ e1,e1=q.ev+1:=⟨_,rfl⟩
 have HM:Mv C (w.setCell ⟨C.K,17,none⟩ (.int .i64 (e1:Int))) s { q with ev:=q.ev+1 } iv ov:=by
  rw[he1];exact h.setK hC (s':=s) (q':={ q with ev:=q.ev+1 }) (o:=17) (v:=.int .i64 ((q.ev+1:Nat):Int)) (by decide) (map_ext rfl) rfl rfl rfl rfl rfl
 have HZ:Hid (∀ z w',(C.orc.drop q.ev).headD 0=z→Later (w.setCell ⟨C.K,17,none⟩ (.int .i64 (e1:Int))) w'→MQ C w (.returned (.int .i64 ((C.orc.drop q.ev).headD 0))) s { q with ev:=q.ev+1 } iv ov (.returned (.int .i64 z)) w'):=fun z w' hz l=>⟨by rw[hz],HM.kept l,((OnlyL.refl C w).setK _ _).trans (OnlyL.of_later l)⟩
 have k1:(q.ev:Int)+1=(e1:Int):=by omega
 have k2:(e1:Int)≤1000001:=by omega
 have k3:(e1:Int) - 1=(q.ev:Int):=by omega
 have hp1:=hC.p1;have ol:=hC.ol;by_cases hlt:q.ev<C.orc.length
 ·obtain⟨g,off,rfl,hg,hcz⟩:=In.elem hrp q.ev hlt;have hd:(C.orc.drop q.ev).headD 0=C.orc[q.ev]:=by rw[List.drop_eq_getElem_cons hlt];rfl
  have d1:=(Below.cell h.lat (p:=⟨g,off+q.ev,none⟩) hg).trans hcz;have hgK:¬ g=C.K:=by omega
  have i1:(e1:Int)≤(C.orc.length:Int):=by omega
  have i2:(q.ev:Int)<(C.orc.length:Int):=by omega
  have HZ2:=fun w'=>HZ.out _ w' hd
  generalize C.orc[q.ev]=z at *
  generalize MQ C w (.returned (.int .i64 ((C.orc.drop q.ev).headD 0))) s { q with ev:=q.ev+1 } iv ov=Q at *
  have HZ3:Hid (∀ w',Later (w.setCell ⟨C.K,17,none⟩ (.int .i64 (e1:Int))) w'→Q (.returned (.int .i64 z)) w'):=HZ2;clear h HM HZ HZ2 hrp hrv hcz hg he1 hd
  generalize q.ev=ev at *
  go_enter Tryz.func121,Tryz.ntmps121;go_wp2_with fail
  go_quiet (fail)
  go_wp2_with fail
  go_quiet (fail)
  go_wp2_with fail
  first|exact HZ3.out _ (Later.drewN' _ _)|exact HZ3.out _ ((Later.drewN' _ _).trans (Later.drewN' _ _))
 ·have hd:(C.orc.drop q.ev).headD 0=0:=by rw[List.drop_eq_nil_of_le (by omega)];rfl
  have i1:¬ (e1:Int)≤(C.orc.length:Int):=by omega
  have i2:decide ((e1:Int)≤(C.orc.length:Int))=false:=decide_eq_false i1;have HZ2:=fun w'=>HZ.out _ w' hd
  generalize MQ C w (.returned (.int .i64 ((C.orc.drop q.ev).headD 0))) s { q with ev:=q.ev+1 } iv ov=Q at *
  have HZ3:Hid (∀ w',Later (w.setCell ⟨C.K,17,none⟩ (.int .i64 (e1:Int))) w'→Q (.returned (.int .i64 0)) w'):=HZ2;clear h HM HZ HZ2 hrp hrv he1 hd
  generalize q.ev=ev at *
  go_enter Tryz.func121,Tryz.ntmps121;go_wp2_with fail
  go_quiet (fail)
  go_wp2_with fail
  first|exact HZ3.out _ (Later.drewN' _ _)|exact HZ3.out _ ((Later.drewN' _ _).trans (Later.drewN' _ _))
theorem lis_b {C:Mx}(hC:MxI C) {w:World}{s:Vm}{q:Mq}{iv ov:Value}(h:Mv C w s q iv ov) (hu:s.used=12000∨s.used=12000+C.H) {z:Int}{b:Bool}(hb:s.obj C.H z=b) :
  Calls Tryz.prog 80 #[.pointer (some ⟨C.K,0,none⟩),.int .i64 z] w (DrQ (.returned (.bool b)) w):=by
 subst hb;have hN:=hC.hN;have h4:=hC.h4;obtain⟨c4,_⟩:=h.c4;obtain⟨c5,_⟩:=h.c5;obtain⟨c6,_⟩:=h.c6;have hw1:(s.used:Int)+(C.H:Int)≤30000:=by omega
 by_cases h1:(s.used:Int)≤z
 ·by_cases h2:z<(s.used:Int)+(C.H:Int)
  ·obtain⟨a,rfl⟩:∃ a:Nat,z=(a:Int):=⟨z.toNat,by omega⟩
   obtain⟨cm,_⟩:=h.mark (a:=a) (by omega)
   have:s.obj C.H (a:Int)=(s.pl a != 0):=by
    unfold Vm.obj;rw[decide_eq_true h1,decide_eq_true h2,Bool.true_and,Bool.true_and,Int.toNat_natCast]
   rw[this];have i1:(a:Int)<(C.N:Int):=by omega
   clear h this hN
   generalize (s.pl a != 0)=m at *
   generalize s.used=U at *
   generalize C.H=H at *
   go_enter Tryz.func80,Tryz.ntmps80;go_wp2_with fail
   go_quiet (fail)
   go_wp2_with fail
   go_ret;exact⟨rfl,_,rfl⟩
  ·have:s.obj C.H z=false:=by
    unfold Vm.obj;rw[decide_eq_false h2,Bool.false_and,Bool.and_false]
   rw[this];have h2':decide (z<(s.used:Int)+(C.H:Int))=false:=decide_eq_false h2;clear h this hN
   generalize s.used=U at *
   generalize C.H=H at *
   go_enter Tryz.func80,Tryz.ntmps80;go_wp2_with fail
   go_quiet (fail)
   go_wp2_with fail
   go_ret;exact⟨rfl,_,rfl⟩
 ·have:s.obj C.H z=false:=by
   unfold Vm.obj;rw[decide_eq_false h1,Bool.false_and]
  rw[this];have h1':decide ((s.used:Int)≤z)=false:=decide_eq_false h1;clear h this hN
  generalize s.used=U at *
  generalize C.H=H at *
  go_enter Tryz.func80,Tryz.ntmps80;go_wp2_with fail
  go_quiet (fail)
  go_wp2_with fail
  go_ret;exact⟨rfl,_,rfl⟩
theorem lwords_any {C:Mx}(hC:MxI C) {w:World}{s:Vm}{q:Mq}{iv ov:Value}(h:Mv C w s q iv ov) {z:Int}(hg:Good C.x z) :
  Calls Tryz.prog 123 #[.pointer (some ⟨C.K,0,none⟩),.int .i64 z] w fun n w'=>n=.returned (.int .i64 ((szW C.x z:Nat):Int))∧w'=w:=by
 obtain⟨c0,_⟩:=h.c0;have h0:=hg.1;have h9:=hg.2.1;have e1:z.tmod 8=z % 8:=Int.tmod_eq_emod_of_nonneg h0;have e2:z.tdiv 8=z / 8:=Int.tdiv_eq_ediv_of_nonneg h0
 obtain⟨k,hk⟩:∃ k:Nat,z / 8=(k:Int):=⟨(z / 8).toNat,by omega⟩
 have kb:(k:Int)≤1000:=by omega
 by_cases hm:z % 8=0
 ·have hn:=hg.2.2.1 hm;rw[szW_str hm];obtain⟨g,off,sc,va,vc,hsv,hcs⟩:=st_len hC.cx hn;have hsv':C.sv=.slice (some ⟨g,off,none⟩) C.x.structs.length sc:=hsv;have d1:=hcs w h.lat;have hkt:(z / 8).toNat=k:=by omega
  rw[hkt]at d1 hn ⊢;rw[hsv']at c0;have d2:w.cell? ⟨g,off+k,none⟩=some (.slice va (stAt C.x k).length vc):=d1;have i1:(k:Int)<(C.x.structs.length:Int):=by omega
  rw[hm]at e1;rw[hk]at e2;clear h hg hcs hsv hsv' d1 hkt hm hk h0 h9
  generalize (stAt C.x k).length=L at *
  go_enter Tryz.func123,Tryz.ntmps123;go_wp2_with fail
  go_ret;exact⟨rfl,rfl⟩
 ·rw[szW_list hm];have hkt:(z / 8).toNat=k:=by omega
  rw[hkt];have hm':(z % 8==0)=false:=by simp[hm]
  rw[hk]at e2;clear h hg hm hk hkt h0 h9
  generalize z % 8=m at *
  go_enter Tryz.func123,Tryz.ntmps123;go_wp2_with fail
  go_ret;exact⟨rfl,rfl⟩
theorem lleads_any {C:Mx}(hC:MxI C) {w:World}{s:Vm}{q:Mq}{iv ov:Value}(h:Mv C w s q iv ov) {z:Int}(hg:Good C.x z) {j:Nat}(hj:j<szW C.x z) :
  Calls Tryz.prog 148 #[.pointer (some ⟨C.K,0,none⟩),.int .i64 z,.int .i64 (j:Int)] w fun n w'=>n=.returned (.bool (leads C.x z j))∧w'=w:=by
 obtain⟨c0,_⟩:=h.c0;have h0:=hg.1;have h9:=hg.2.1;have e1:z.tmod 8=z % 8:=Int.tmod_eq_emod_of_nonneg h0;have e2:z.tdiv 8=z / 8:=Int.tdiv_eq_ediv_of_nonneg h0
 obtain⟨k,hk⟩:∃ k:Nat,z / 8=(k:Int):=⟨(z / 8).toNat,by omega⟩
 have kb:(k:Int)≤1000:=by omega
 by_cases hm:z % 8=0
 ·obtain⟨g,off,sc,va,vo,vn,vc,hsv,hn,hcs⟩:=st_at hC.cx hg hm hj;have hsv':C.sv=.slice (some ⟨g,off,none⟩) C.x.structs.length sc:=hsv;obtain⟨d1,d2,hjv⟩:=hcs w h.lat;have hn':(z / 8).toNat<C.x.structs.length:=hn;have hkt:(z / 8).toNat=k:=by omega
  rw[hkt]at d1 hn';rw[hsv']at c0;have d3:w.cell? ⟨va,vo+j,none⟩=some (.bool (leads C.x z j)):=d2;have i1:(k:Int)<(C.x.structs.length:Int):=by omega
  have i2:(j:Int)<(vn:Int):=by omega
  rw[hm]at e1;rw[hk]at e2;clear h hg hcs hsv hsv' d2 hkt hm hk h0 h9 hn hj
  generalize leads C.x z j=b at *
  go_enter Tryz.func148,Tryz.ntmps148;go_wp2_with fail
  go_ret;exact⟨rfl,rfl⟩
 ·have hl:leads C.x z j=(z % 8==3):=by unfold leads;rw[if_neg hm]
  rw[hl];have hm':(z % 8==0)=false:=by simp[hm]
  clear h hg hm hk h0 h9 hj hl
  generalize z % 8=m at *
  go_enter Tryz.func148,Tryz.ntmps148;go_wp2_with fail
  go_ret;exact⟨rfl,rfl⟩
theorem find_skip {l:List Ma}{pc:Int}:∀ {j:Nat}(hj:j<l.length),(∀ i (hi:i<l.length),i<j→¬ l[i].pc=pc)→l[j].pc=pc→l.find? (fun m=>m.pc==pc)=some l[j]:=by
 induction l with
 | nil=>intro j hj;exact absurd hj (Nat.not_lt_zero _)
 | cons x r ih =>
  intro j hj hn he
  cases j with
  | zero =>
   have e:x.pc=pc:=he;rw[List.find?_cons,show (x.pc==pc)=true by simp[e]];rfl
  | succ j =>
   have e:¬ x.pc=pc:=hn 0 (Nat.zero_lt_succ _) (Nat.zero_lt_succ _);rw[List.find?_cons,show (x.pc==pc)=false by simp[e]];exact ih (j:=j) (Nat.lt_of_succ_lt_succ hj) (fun i hi hij=>hn (i+1) (Nat.succ_lt_succ hi) (Nat.succ_lt_succ hij)) he
theorem find_none {l:List Ma}{pc:Int}(hn:∀ i (hi:i<l.length),¬ l[i].pc=pc):l.find? (fun m=>m.pc==pc)=none:=by
 rw[List.find?_eq_none];intro m hm;obtain⟨i,hi,rfl⟩:=List.getElem_of_mem hm;simpa using hn i hi
theorem lmap_any {C:Mx}(hC:MxI C) {w:World}{s:Vm}{q:Mq}{iv ov:Value}(h:Mv C w s q iv ov) {fn:Nat}(hf:fn<C.x.codes.length) (pc:Int) :
  Calls Tryz.prog 146 #[.pointer (some ⟨C.K,0,none⟩),.int .i64 (fn:Int),.int .i64 pc] w fun n w'=>∃ v,n=.returned v∧RdL C.w0 1 v (In.dats (mapAt (cdAt C.x fn) pc))∧w'=w:=by
 obtain⟨c1,_⟩:=h.c1;obtain⟨g,off,v0,v1,e1,hg,_,_,_,h3,_,r1⟩:=Cd.elem hC.cd fn hf
 cases e1
 rw[←cdAt_eq hf]at r1;obtain⟨ma,mc,rfl,hml⟩:=Ma.slice r1;have d3:=(Below.cell h.lat (p:=⟨C.cg,C.co+fn*4+3,none⟩) hg).trans h3;have i1:(fn:Int)<(C.x.codes.length:Int):=by omega
 have hlat:=h.lat
 have HE:Hid (∀ (j:Nat) (hj:j<(cdAt C.x fn).maps.length),∃ g off v,ma=some ⟨g,off,none⟩∧w.cell? ⟨g,off+j*2,none⟩=some (.int .i64 (cdAt C.x fn).maps[j].pc)∧w.cell? ⟨g,off+j*2+1,none⟩=some v∧RdL C.w0 1 v (In.dats (cdAt C.x fn).maps[j].slots)):=fun j hj=>by
  obtain⟨g2,off2,v2,e2,hg2,k0,k1,rr⟩:=Ma.elem r1 j hj;exact⟨g2,off2,v2,e2,(Below.cell hlat (p:=⟨g2,off2+j*2,none⟩) hg2).trans k0,(Below.cell hlat (p:=⟨g2,off2+j*2+1,none⟩) hg2).trans k1,rr⟩
 have HZ:Hid (∀ (j:Nat) (hj:j<(cdAt C.x fn).maps.length) v,(∀ i (hi:i<(cdAt C.x fn).maps.length),i<j→¬ (cdAt C.x fn).maps[i].pc=pc)→(cdAt C.x fn).maps[j].pc=pc→RdL C.w0 1 v (In.dats (cdAt C.x fn).maps[j].slots)→RdL C.w0 1 v (In.dats (mapAt (cdAt C.x fn) pc))):=fun j hj v hn he r=>by
  unfold mapAt;rw[find_skip hj hn he];exact r
 have HN:Hid ((∀ i (hi:i<(cdAt C.x fn).maps.length),¬ (cdAt C.x fn).maps[i].pc=pc)→RdL C.w0 1 (.slice none 0 0) (In.dats (mapAt (cdAt C.x fn) pc))):=fun hn=>by
  unfold mapAt;rw[find_none hn];exact⟨none,0,rfl,⟨Nat.le_refl _,by unfold maxLen;omega⟩,fun j hj=>absurd hj (Nat.not_lt_zero _)⟩
 clear h h3 hg r1
 generalize mapAt (cdAt C.x fn) pc=M at *
 generalize (cdAt C.x fn).maps=l at *
 go_enter Tryz.func146,Tryz.ntmps146;go_wp2_with fail
 go_loopw [8] (fun i wr=>∃ j:Nat,i=.int .i64 (j:Int)∧j≤l.length∧wr=w∧Hid (∀ i (hi:i<l.length),i<j→¬ l[i].pc=pc)) (fun i _=>l.length - (intOf i).toNat)
 case atStart=>exact⟨0,rfl,Nat.zero_le _,rfl,fun i _ hi=>absurd hi (Nat.not_lt_zero _)⟩
 case round =>
  obtain⟨j,rfl,hj,rfl,HJ⟩:=hrel;by_cases hlt:j<l.length
  ·have i2:(j:Int)<(l.length:Int):=by omega
   obtain⟨g2,off2,v2,rfl,k0,k1,rr⟩:=HE.out j hlt;by_cases he:l[j].pc=pc
   ·have hr:=HZ.out j hlt v2 HJ.out he rr;have he':(l[j].pc==pc)=true:=by simp[he]
    obtain⟨va,vc,rfl,_⟩:=In.slice rr
    generalize l[j].pc=pj at *
    generalize l[j].slots.length=sl at *
    clear HE HZ HN HJ rr;go_wp2_with fail
    go_ret;exact⟨_,rfl,hr,rfl⟩
   ·have he':(l[j].pc==pc)=false:=by simp[he]
    have HJ2:Hid (∀ i (hi:i<l.length),i<j+1→¬ l[i].pc=pc):=fun i hi hij=>by
     rcases Nat.lt_or_ge i j with k|k
     ·exact HJ.out i hi k
     ·have:i=j:=by omega
      subst this;exact he
    generalize l[j].pc=pj at *
    clear HE HZ HN HJ rr;go_wp2_with fail
    go_roundw
    case rel=>exact⟨j+1,by go_num,by omega,(by first|rfl|trivial),HJ2⟩
    case measure=>simp[intOf];omega
  ·have i2:¬ (j:Int)<(l.length:Int):=by omega
   have i3:decide ((j:Int)<(l.length:Int))=false:=decide_eq_false i2;have hr:=HN.out (fun i hi=>HJ.out i hi (by omega));clear HE HZ HN HJ;go_wp2_with fail
   go_ret;exact⟨_,rfl,hr,rfl⟩
end Go.Proofs.YtjnpncefkigcbaaGreat
