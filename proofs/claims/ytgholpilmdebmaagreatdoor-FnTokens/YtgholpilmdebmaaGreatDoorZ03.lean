import Derived.Test.YtgholpilmdebmaaGreatDoorZ02
import Derived.Deep.RegionWith
import Derived.ProofKit
set_option maxHeartbeats 100000000
set_option maxRecDepth 100000
namespace Go.Proofs.YtgholpilmdebmaaGreatDoor
open Go.RowKit
end Go.Proofs.YtgholpilmdebmaaGreatDoor
namespace Go.Proofs.YtgholpilmdebmaaGreatDoor
open Go.RowKit
theorem bcell {W w1:World}(hb:Later W w1):(∀ b o,b<W.heap.size→w1.cell? ⟨b,o,none⟩=W.cell? ⟨b,o,none⟩)∧(∀ b o,b<W.heap.size→w1.frozen? ⟨b,o,none⟩=W.frozen? ⟨b,o,none⟩) :=
 ⟨fun b o h=>Below.cell hb (p:=⟨b,o,none⟩) h,fun b o h=>Below.frozen hb (p:=⟨b,o,none⟩) h⟩
theorem Later.setAt {w w':World}(h:Later w w') {b:Nat}(hb:w.heap.size≤b) (o:Nat) (v:Value):Later w (w'.setCell ⟨b,o,none⟩ v):=Below.setCell h hb v
theorem Later.alloc {w w':World}(h:Later w w') (o:Obj):Later w (w'.alloc o):=h.trans (later1 _ _)
structure Kept (lo:Nat) (w w':World):Prop where
 size:w.heap.size≤w'.heap.size
 block:∀ b,lo≤b→b<w.heap.size→w'.heap[b]?=w.heap[b]?
theorem Kept.refl (lo:Nat) (w:World):Kept lo w w:=⟨Nat.le_refl _,fun _ _ _=>rfl⟩
theorem Kept.set {lo:Nat}{w w':World}(h:Kept lo w w') {a:Addr}(ha:a.block<lo) (v:Value):Kept lo w (w'.setCell a v) :=
 ⟨by rw[World.size_setCell];exact h.size,fun b hb hw=>by rw[Below.heap_setCell _ _ _ _ (by omega)];exact h.block b hb hw⟩
theorem Kept.setAt {lo:Nat}{w w':World}(h:Kept lo w w') {b:Nat}(hb:b<lo) (o:Nat) (v:Value):Kept lo w (w'.setCell ⟨b,o,none⟩ v):=h.set hb v
def Fr (lo hi:Nat) (F:List Nat):Prop:=F.Nodup∧∀ b∈F,lo≤b∧b<hi
theorem Fr.nil (lo hi:Nat):Fr lo hi []:=⟨List.nodup_nil,fun b hb=>by cases hb⟩
theorem Fr.one {lo hi g:Nat}(h:lo≤g) (h':g<hi):Fr lo hi [g]:=⟨by simp,fun b hb=>by rw[List.mem_singleton.1 hb];exact⟨h,h'⟩⟩
theorem Fr.mono {lo hi lo' hi':Nat}{F:List Nat}(h:Fr lo hi F) (h1:lo'≤lo) (h2:hi≤hi'):Fr lo' hi' F:=⟨h.1,fun b hb=>by have:=h.2 b hb;omega⟩
theorem Fr.app {lo mid hi:Nat}{F G:List Nat}(h:Fr lo mid F) (k:Fr mid hi G) (h1:lo≤mid) (h2:mid≤hi):Fr lo hi (F++G):=by
 refine⟨List.nodup_append.2 ⟨h.1,k.1,fun a ha b hb e=>?_⟩,fun b hb=>?_⟩
 ·have x:=h.2 a ha;have y:=k.2 b hb;omega
 ·rcases List.mem_append.1 hb with hb|hb
  ·have:=h.2 b hb;omega
  ·have:=k.2 b hb;omega
theorem Own.mk' {base:Nat}{w:World}{d:Dat}{cs:List Value}{F:List Nat}(h:OwnD w d cs F) (f:Fr base w.heap.size F):Own base w d cs F:=⟨h,f.1,f.2⟩
theorem Own.fr {base:Nat}{w:World}{d:Dat}{cs:List Value}{F:List Nat}(h:Own base w d cs F):Fr base w.heap.size F:=⟨h.nodup,h.fresh⟩
end Go.Proofs.YtgholpilmdebmaaGreatDoor
