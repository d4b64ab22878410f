import Derived.Test.YtgaddpkkjebekaaGreatDoorProg
import Derived.WalkKit
import Derived.WalkSpells
import Derived.WalkLawsBesides
import Derived.Deep.QuietTactic
import Derived.BigQuiet
set_option maxHeartbeats 100000000
set_option maxRecDepth 100000
namespace Go.Proofs.YtgaddpkkjebekaaGreatDoor
open Go.RowKit
def Later (w w':World):Prop:=Below w.heap.size w w'
theorem Later.refl (w:World):Later w w:=Below.refl _ _
theorem Later.drew (w:World):Later w w.drew:=(Below.refl _ _).drew
theorem Later.trans {a b c:World}(h:Later a b) (k:Later b c):Later a c:=Below.trans h (Below.mono k h.size)
theorem wu {k:IntKind}{a b:Int}(h:a=b):Ending.returned (.int k a)=.returned (.int k b):=by rw[h]
structure af (K:Nat) (w w':World):Prop where
 os:w'.os=w.os
 tape:w'.tape=w.tape
 output:w'.output=w.output
 size:w.heap.size<=w'.heap.size
 block:∀ k,k<w.heap.size->k≠K->w'.heap[k]?=w.heap[k]?
theorem af.refl (K:Nat) (w:World):af K w w:=⟨rfl,rfl,rfl,Nat.le_refl _,fun _ _ _=>rfl⟩
theorem af.trans {K:Nat}{a b c:World}(h:af K a b) (k:af K b c):af K a c :=
 ⟨k.os.trans h.os,k.tape.trans h.tape,k.output.trans h.output,Nat.le_trans h.size k.size,fun i hi hn=>(k.block i (Nat.lt_of_lt_of_le hi h.size) hn).trans (h.block i hi hn)⟩
theorem af.set {K:Nat}{a w:World}(h:af K a w) (o:Nat) (u:Value):af K a (w.setCell ⟨K,o,none⟩ u) :=
 h.trans ⟨rfl,rfl,rfl,by simp[World.setCell],fun k _ hn=>Below.heap_setCell _ _ _ _ hn⟩
theorem af.alloc {K:Nat}{a w:World}(h:af K a w) (o:Obj):af K a (w.alloc o) :=
 h.trans ⟨rfl,rfl,rfl,by simp,fun _ hk _=>Below.heap_alloc _ _ _ hk⟩
theorem af.below {K B:Nat}{w w':World}(h:af K w w') (hB:B<=K) (hs:B<=w.heap.size):Below B w w' :=
 ⟨h.os,h.tape,h.output,h.size,fun k hk=>h.block k (by omega) (by omega)⟩
theorem af.later {K B:Nat}{w w':World}(h:Below B w w') (hB:w.heap.size<=B):af K w w' :=
 ⟨h.os,h.tape,h.output,h.size,fun k hk _=>h.block k (by omega)⟩
theorem MF {K o o':Nat}(h:o≠o'):(⟨K,o,none⟩:Addr)≠⟨K,o',none⟩:=by intro e;cases e;exact h rfl
theorem jo {w:World}{a:Addr}{u v:Value}(h:w.cell? a=some u):(w.setCell a v).cell? a=some v:=World.cell?_setCell_same' w a v (by rw[h];rfl)
theorem JC (w:World) (K:Nat) {o o':Nat}(v:Value) (h:o≠o'):(w.setCell ⟨K,o,none⟩ v).cell? ⟨K,o',none⟩=w.cell? ⟨K,o',none⟩:=by
 apply World.cell?_setCell_other;exact MF h
def InR (v:Int):Prop:=-9223372036854775808<=v/\v<=9223372036854775807
theorem bF (w:World) (o o':Obj):Later w ((w.alloc o).alloc o'):=((Below.refl _ _).alloc (Nat.le_refl _) _).alloc (by simp) _
theorem ae (w:World) (o:Obj):Later w (w.alloc o):=(Below.refl _ _).alloc (Nat.le_refl _) _
theorem bg {w w':World}(h:Later w w') (n:Nat):Later w (w'.drewN n):=below_drewN h n
theorem dh {a b:Bool}(h:a=b):Ending.returned (.bool a)=.returned (.bool b):=by rw[h]
theorem Bo {xs ys:List Int}(hl:xs.length=ys.length) (h:∀ j,j<xs.length->xs.getD j 0=ys.getD j 0):xs=ys:=by
 apply List.ext_getElem hl
 intro j h1 h2;have:=h j h1
 rwa [List.getD_eq_getElem?_getD,List.getD_eq_getElem?_getD,List.getElem?_eq_getElem h1,List.getElem?_eq_getElem h2]at this
def isB (z:Int):Prop:=0<=z/\z<=255
def RdB (w:World) (v:Value) (zs:List Int):Prop :=
 ∃ a cap,v=.slice a zs.length cap/\(zs.length:Int)<=9223372036854775807/\(∀ j,isB (zs.getD j 0)) /\
  ∀ j,j<zs.length->∃ g off,a=some ⟨g,off,none⟩/\g<w.heap.size/\w.cell? ⟨g,off+j,none⟩=some (.int .u8 (zs.getD j 0))
theorem RdB.later {w w':World}{v:Value}{zs:List Int}(h:RdB w v zs) (hb:Later w w'):RdB w' v zs:=by
 obtain⟨a,cap,rfl,hl,hz,hc⟩:=h;refine⟨a,cap,rfl,hl,hz,fun j hj=>?_⟩;obtain⟨g,off,rfl,hg,hv⟩:=hc j hj;exact⟨g,off,rfl,Nat.lt_of_lt_of_le hg hb.size,by rw[Below.cell hb (p:=⟨g,off+j,none⟩) hg];exact hv⟩
theorem RdB.nil (w:World):RdB w (.slice none 0 0) []:=⟨none,0,rfl,by decide,fun _=>⟨by simp,by simp⟩,fun j hj=>absurd hj (Nat.not_lt_zero _)⟩
theorem Tryz.info5:(Tryz.prog.info? 5).map (fun i=>(i.zero,i.size,i.bytes))=some (some (.int .u8 0),1,1):=by kernel_rfl
end Go.Proofs.YtgaddpkkjebekaaGreatDoor
