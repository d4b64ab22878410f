import Derived.Test.YtjnpncefkigcbaaGreatProg
import Derived.WalkKit
import Derived.WalkSpells
import Derived.WalkLawsBesides
import Derived.Deep.QuietTactic
import Derived.BigQuiet
import Derived.ProofKit
set_option maxHeartbeats 100000000
set_option maxRecDepth 100000
namespace Go.Proofs.YtjnpncefkigcbaaGreat
open Go.RowKit
def Later (w w':World):Prop:=Below w.heap.size w w'
theorem Later.refl (w:World):Later w w:=Below.refl _ _
theorem Later.drew (w:World):Later w w.drew:=(Below.refl _ _).drew
theorem Later.trans {a b c:World}(h:Later a b) (k:Later b c):Later a c:=Below.trans h (Below.mono k h.size)
theorem ret_int {k:IntKind}{a b:Int}(h:a=b):Ending.returned (.int k a)=.returned (.int k b):=by rw[h]
theorem ne_of_off {K o o':Nat}(h:o≠o'):(⟨K,o,none⟩:Addr)≠⟨K,o',none⟩:=by intro e;cases e;exact h rfl
theorem ne_of_block {b K o o':Nat}(h:b≠K):(⟨K,o,none⟩:Addr)≠⟨b,o',none⟩:=by intro e;cases e;exact h rfl
theorem set_same {w:World}{a:Addr}{u v:Value}(h:w.cell? a=some u):(w.setCell a v).cell? a=some v:=World.cell?_setCell_same' w a v (by rw[h];rfl)
theorem set_off (w:World) (K:Nat) {o o':Nat}(v:Value) (h:o≠o'):(w.setCell ⟨K,o,none⟩ v).cell? ⟨K,o',none⟩=w.cell? ⟨K,o',none⟩:=by
 apply World.cell?_setCell_other;exact ne_of_off h
def InR (v:Int):Prop:=-9223372036854775808≤v∧v≤9223372036854775807
theorem later2 (w:World) (o o':Obj):Later w ((w.alloc o).alloc o'):=((Below.refl _ _).alloc (Nat.le_refl _) _).alloc (by simp) _
theorem later1 (w:World) (o:Obj):Later w (w.alloc o):=(Below.refl _ _).alloc (Nat.le_refl _) _
theorem later_drewN {w w':World}(h:Later w w') (n:Nat):Later w (w'.drewN n):=below_drewN h n
theorem grown_later {w w':World}(h:w.grownBy w' none):Later w w':=⟨h.os,h.tape,h.output,h.size,fun k hk=>h.block k hk (by simp)⟩
def isB (z:Int):Prop:=0≤z∧z≤255
def RdB (w:World) (v:Value) (zs:List Int):Prop :=
 ∃ a cap,v=.slice a zs.length cap∧(zs.length:Int)≤9223372036854775807∧(∀ j,isB (zs.getD j 0)) ∧
  ∀ j,j<zs.length→∃ g off,a=some ⟨g,off,none⟩∧g<w.heap.size∧w.cell? ⟨g,off+j,none⟩=some (.int .u8 (zs.getD j 0))
theorem RdB.later {w w':World}{v:Value}{zs:List Int}(h:RdB w v zs) (hb:Later w w'):RdB w' v zs:=by
 obtain⟨a,cap,rfl,hl,hz,hc⟩:=h;refine⟨a,cap,rfl,hl,hz,fun j hj=>?_⟩;obtain⟨g,off,rfl,hg,hv⟩:=hc j hj;exact⟨g,off,rfl,Nat.lt_of_lt_of_le hg hb.size,by rw[Below.cell hb (p:=⟨g,off+j,none⟩) hg];exact hv⟩
theorem RdB.nil (w:World):RdB w (.slice none 0 0) []:=⟨none,0,rfl,by decide,fun _=>⟨by simp,by simp⟩,fun j hj=>absurd hj (Nat.not_lt_zero _)⟩
theorem Tryz.info5:(Tryz.prog.info? 5).map (fun i=>(i.zero,i.size,i.bytes))=some (some (.int .u8 0),1,1):=by kernel_rfl
theorem set_other {w:World}{a b:Addr}{v:Value}(h:a≠b):(w.setCell a v).cell? b=w.cell? b:=by apply World.cell?_setCell_other;exact h
structure RdN (w:World) (v:Value) (zs:List Int):Prop where
 rd:RdB w v zs
 cap:∃ a cap,v=.slice a zs.length cap∧zs.length≤cap∧cap≤maxLen
theorem RdN.later {w w':World}{v:Value}{zs:List Int}(h:RdN w v zs) (hb:Later w w'):RdN w' v zs:=⟨h.rd.later hb,h.cap⟩
inductive Dat where
 | int (n:Int)
 | bool (b:Bool)
 | bytes (zs:List Int)
 | agg (fs:List Dat)
 | list (k:Nat) (l:List Dat)
mutual
def RdD (w:World):Dat→List Value→Prop
 | .int n,cs=>cs=[.int .i64 n]
 | .bool b,cs=>cs=[.bool b]
 | .bytes zs,cs=>∃ v,cs=[v]∧RdN w v zs
 | .agg fs,cs=>RdAgg w fs cs
 | .list k l,cs=>∃ a cap,cs=[.slice a l.length cap]∧(l.length≤cap∧cap≤maxLen)∧RdAll w k a 0 l
def RdAgg (w:World):List Dat→List Value→Prop
 | [],cs=>cs=[]
 | d::r,cs=>∃ c1 c2,cs=c1++c2∧RdD w d c1∧RdAgg w r c2
def RdAll (w:World) (k:Nat) (a:Option Addr):Nat→List Dat→Prop
 | _,[]=>True
 | i,d::r=>(∃ g off cs,a=some ⟨g,off,none⟩∧g<w.heap.size∧cs.length=k∧(∀ m u,cs[m]?=some u→w.cell? ⟨g,off+i*k+m,none⟩=some u)∧RdD w d cs)∧RdAll w k a (i+1) r
end
mutual
theorem RdD.later {w w':World}(hb:Later w w'):∀ (d:Dat) {cs:List Value},RdD w d cs→RdD w' d cs
 | .int n,cs,h=>by rw[RdD]at h ⊢;exact h
 | .bool n,cs,h=>by rw[RdD]at h ⊢;exact h
 | .bytes zs,cs,h=>by
  rw[RdD]at h ⊢;obtain⟨v,e,hr⟩:=h;exact⟨v,e,hr.later hb⟩
 | .agg fs,cs,h=>by rw[RdD]at h ⊢;exact RdAgg.later hb fs h
 | .list k l,cs,h=>by
  rw[RdD]at h ⊢;obtain⟨a,cap,e,hl,hr⟩:=h;exact⟨a,cap,e,hl,RdAll.later hb l hr⟩
theorem RdAgg.later {w w':World}(hb:Later w w'):∀ (fs:List Dat) {cs:List Value},RdAgg w fs cs→RdAgg w' fs cs
 | [],cs,h=>by rw[RdAgg]at h ⊢;exact h
 | d::r,cs,h=>by
  rw[RdAgg]at h ⊢;obtain⟨c1,c2,e,h1,h2⟩:=h;exact⟨c1,c2,e,RdD.later hb d h1,RdAgg.later hb r h2⟩
theorem RdAll.later {w w':World}(hb:Later w w') {k:Nat}{a:Option Addr}:∀ (l:List Dat) {i:Nat},RdAll w k a i l→RdAll w' k a i l
 | [],i,_=>by rw[RdAll];trivial
 | d::r,i,h=>by
  rw[RdAll]at h ⊢;obtain⟨⟨g,off,cs,e,hg,hk,hc,hd⟩,hr⟩:=h;exact⟨⟨g,off,cs,e,Nat.lt_of_lt_of_le hg hb.size,hk,fun m u hm=>by rw[Below.cell hb (p:=⟨g,off+i*k+m,none⟩) hg];exact hc m u hm,RdD.later hb d hd⟩,RdAll.later hb r hr⟩
end
theorem RdAll.at {w:World}{k:Nat}{a:Option Addr}:∀ (l:List Dat) {i:Nat},RdAll w k a i l→∀ j (hj:j<l.length),∃ g off cs,a=some ⟨g,off,none⟩∧g<w.heap.size∧cs.length=k∧(∀ m u,cs[m]?=some u→w.cell? ⟨g,off+(i+j)*k+m,none⟩=some u)∧RdD w l[j] cs
 | d::r,i,h,0,_=>by rw[RdAll]at h;exact h.1
 | d::r,i,h,j+1,hj=>by
  rw[RdAll]at h;have:=RdAll.at r h.2 j (by simpa using hj);rw[show i+1+j=i+(j+1) by omega]at this;exact this
theorem RdAll.of {w:World}{k:Nat}{a:Option Addr}:∀ (l:List Dat) {i:Nat},(∀ j (hj:j<l.length),∃ g off cs,a=some ⟨g,off,none⟩∧g<w.heap.size∧cs.length=k∧(∀ m u,cs[m]?=some u→w.cell? ⟨g,off+(i+j)*k+m,none⟩=some u)∧RdD w l[j] cs)→RdAll w k a i l
 | [],i,_=>by rw[RdAll];trivial
 | d::r,i,h=>by
  rw[RdAll];refine⟨h 0 (by simp),RdAll.of r fun j hj=>?_⟩;have:=h (j+1) (by simpa using hj);rw[show i+(j+1)=i+1+j by omega]at this;exact this
def RdL (w:World) (k:Nat) (v:Value) (l:List Dat):Prop:=∃ a cap,v=.slice a l.length cap∧(l.length≤cap∧cap≤maxLen) ∧
 ∀ j (hj:j<l.length),∃ g off cs,a=some ⟨g,off,none⟩∧g<w.heap.size∧cs.length=k∧(∀ m u,cs[m]?=some u→w.cell? ⟨g,off+j*k+m,none⟩=some u)∧RdD w l[j] cs
theorem RdL.iff {w:World}{k:Nat}{l:List Dat}{cs:List Value}:RdD w (.list k l) cs↔∃ v,cs=[v]∧RdL w k v l:=by
 rw[RdD];constructor
 ·rintro ⟨a,cap,rfl,hl,h⟩;exact⟨_,rfl,a,cap,rfl,hl,fun j hj=>by have:=RdAll.at l h j hj;rwa [Nat.zero_add]at this⟩
 ·rintro ⟨v,rfl,a,cap,rfl,hl,h⟩;exact⟨a,cap,rfl,hl,RdAll.of l fun j hj=>by rw[Nat.zero_add];exact h j hj⟩
theorem RdL.later {w w':World}(hb:Later w w') {k:Nat}{v:Value}{l:List Dat}(h:RdL w k v l):RdL w' k v l:=by
 have:=RdD.later hb (.list k l) (cs:=[v]) (RdL.iff.2 ⟨v,rfl,h⟩);obtain⟨v',e,h'⟩:=RdL.iff.1 this
 cases e
 exact h'
theorem RdL.cap {w:World}{k:Nat}{v:Value}{l:List Dat}(h:RdL w k v l):∃ a cap,v=.slice a l.length cap∧l.length≤cap∧cap≤maxLen:=by
 obtain⟨a,cap,e,hl,_⟩:=h;exact⟨a,cap,e,hl⟩
theorem RdL.slice {w:World}{k:Nat}{v:Value}{l:List Dat}(h:RdL w k v l):∃ a cap,v=.slice a l.length cap∧(l.length:Int)≤9223372036854775807:=by
 obtain⟨a,cap,e,hl,hm⟩:=h.cap;exact⟨a,cap,e,by unfold maxLen at hm;omega⟩
mutual
def OwnD (w:World):Dat→List Value→List Nat→Prop
 | .int n,cs,F=>cs=[.int .i64 n]∧F=[]
 | .bool b,cs,F=>cs=[.bool b]∧F=[]
 | .bytes zs,cs,F=>∃ a cap,cs=[.slice a zs.length cap]∧(zs.length≤1048576∧zs.length≤cap∧cap≤maxLen)∧(∀ j,isB (zs.getD j 0)) ∧
   (0<zs.length→∃ g,a=some ⟨g,0,none⟩∧F=[g]∧g<w.heap.size∧∀ j,j<zs.length→w.cell? ⟨g,j,none⟩=some (.int .u8 (zs.getD j 0))∧w.frozen? ⟨g,j,none⟩=false)∧(zs.length=0→F=[])
 | .agg fs,cs,F=>OwnAgg w fs cs F
 | .list k l,cs,F=>∃ a cap,cs=[.slice a l.length cap]∧(l.length≤1048576∧l.length≤cap∧cap≤maxLen) ∧
   (0<l.length→∃ g F',a=some ⟨g,0,none⟩∧F=g::F'∧g<w.heap.size∧OwnAll w k g 0 l F')∧(l.length=0→F=[])
def OwnAgg (w:World):List Dat→List Value→List Nat→Prop
 | [],cs,F=>cs=[]∧F=[]
 | d::r,cs,F=>∃ c1 c2 F1 F2,cs=c1++c2∧F=F1++F2∧OwnD w d c1 F1∧OwnAgg w r c2 F2
def OwnAll (w:World) (k:Nat) (g:Nat):Nat→List Dat→List Nat→Prop
 | _,[],F=>F=[]
 | i,d::r,F=>∃ cs F1 F2,F=F1++F2∧cs.length=k∧(∀ m u,cs[m]?=some u→w.cell? ⟨g,i*k+m,none⟩=some u∧w.frozen? ⟨g,i*k+m,none⟩=false)∧OwnD w d cs F1∧OwnAll w k g (i+1) r F2
end
mutual
theorem OwnD.rd {w:World}:∀ (d:Dat) {cs:List Value}{F:List Nat},OwnD w d cs F→RdD w d cs
 | .int n,cs,F,h=>by rw[OwnD]at h;rw[RdD];exact h.1
 | .bool n,cs,F,h=>by rw[OwnD]at h;rw[RdD];exact h.1
 | .bytes zs,cs,F,h=>by
  rw[OwnD]at h;rw[RdD];obtain⟨a,cap,rfl,hl,hb,hc,_⟩:=h;refine⟨_,rfl,⟨a,cap,rfl,by omega,hb,fun j hj=>?_⟩,⟨a,cap,rfl,hl.2⟩⟩;obtain⟨g,rfl,_,hg,hh⟩:=hc (by omega);exact⟨g,0,rfl,hg,by rw[Nat.zero_add];exact (hh j hj).1⟩
 | .agg fs,cs,F,h=>by rw[OwnD]at h;rw[RdD];exact OwnAgg.rd fs h
 | .list k l,cs,F,h=>by
  rw[OwnD]at h;rw[RdD];obtain⟨a,cap,rfl,hl,hc,_⟩:=h;refine⟨a,cap,rfl,hl.2,?_⟩
  match l,hc with
  | [],_=>rw[RdAll];trivial
  | d::r,hc =>
   obtain⟨g,F',rfl,_,hg,hh⟩:=hc (by simp);exact OwnAll.rd (d::r) hg hh
theorem OwnAgg.rd {w:World}:∀ (fs:List Dat) {cs:List Value}{F:List Nat},OwnAgg w fs cs F→RdAgg w fs cs
 | [],cs,F,h=>by rw[OwnAgg]at h;rw[RdAgg];exact h.1
 | d::r,cs,F,h=>by
  rw[OwnAgg]at h;rw[RdAgg];obtain⟨c1,c2,F1,F2,e,_,h1,h2⟩:=h;exact⟨c1,c2,e,OwnD.rd d h1,OwnAgg.rd r h2⟩
theorem OwnAll.rd {w:World}{k g:Nat}:∀ (l:List Dat) {i:Nat}{F:List Nat},g<w.heap.size→OwnAll w k g i l F→RdAll w k (some ⟨g,0,none⟩) i l
 | [],i,F,_,_=>by rw[RdAll];trivial
 | d::r,i,F,hg,h=>by
  rw[OwnAll]at h;rw[RdAll];obtain⟨cs,F1,F2,_,hk,hc,hd,hr⟩:=h;exact⟨⟨g,0,cs,rfl,hg,hk,fun m u hm=>by rw[Nat.zero_add];exact (hc m u hm).1,OwnD.rd d hd⟩,OwnAll.rd r hg hr⟩
end
mutual
theorem OwnD.agree {w w':World}(hs:w.heap.size≤w'.heap.size):∀ (d:Dat) {cs:List Value}{F:List Nat},OwnD w d cs F→(∀ b∈F,w'.heap[b]?=w.heap[b]?)→OwnD w' d cs F
 | .int n,cs,F,h,_=>by rw[OwnD]at h ⊢;exact h
 | .bool n,cs,F,h,_=>by rw[OwnD]at h ⊢;exact h
 | .bytes zs,cs,F,h,ha=>by
  rw[OwnD]at h ⊢;obtain⟨a,cap,e,hl,hb,hc,h0⟩:=h;refine⟨a,cap,e,hl,hb,fun hp=>?_,h0⟩;obtain⟨g,rfl,rfl,hg,hh⟩:=hc hp;have hbl:=ha g (List.mem_singleton.2 rfl);refine⟨g,rfl,rfl,by omega,fun j hj=>?_⟩;have:=hh j hj;exact⟨by rw[show w'.cell? ⟨g,j,none⟩=w.cell? ⟨g,j,none⟩ from by unfold World.cell?;rw[show w'.heap[(⟨g,j,none⟩:Addr).block]?=w.heap[(⟨g,j,none⟩:Addr).block]? from hbl]];exact this.1,by rw[show w'.frozen? ⟨g,j,none⟩=w.frozen? ⟨g,j,none⟩ from by unfold World.frozen?;rw[show w'.heap[(⟨g,j,none⟩:Addr).block]?=w.heap[(⟨g,j,none⟩:Addr).block]? from hbl]];exact this.2⟩
 | .agg fs,cs,F,h,ha=>by rw[OwnD]at h ⊢;exact OwnAgg.agree hs fs h ha
 | .list k l,cs,F,h,ha=>by
  rw[OwnD]at h ⊢;obtain⟨a,cap,e,hl,hc,h0⟩:=h;refine⟨a,cap,e,hl,fun hp=>?_,h0⟩;obtain⟨g,F',rfl,rfl,hg,hh⟩:=hc hp;exact⟨g,F',rfl,rfl,by omega,OwnAll.agree hs l hh (ha g (List.mem_cons_self ..)) (fun b hb=>ha b (List.mem_cons_of_mem _ hb))⟩
theorem OwnAgg.agree {w w':World}(hs:w.heap.size≤w'.heap.size):∀ (fs:List Dat) {cs:List Value}{F:List Nat},OwnAgg w fs cs F→(∀ b∈F,w'.heap[b]?=w.heap[b]?)→OwnAgg w' fs cs F
 | [],cs,F,h,_=>by rw[OwnAgg]at h ⊢;exact h
 | d::r,cs,F,h,ha=>by
  rw[OwnAgg]at h ⊢;obtain⟨c1,c2,F1,F2,e,rfl,h1,h2⟩:=h;exact⟨c1,c2,F1,F2,e,rfl,OwnD.agree hs d h1 (fun b hb=>ha b (List.mem_append_left _ hb)),OwnAgg.agree hs r h2 (fun b hb=>ha b (List.mem_append_right _ hb))⟩
theorem OwnAll.agree {w w':World}(hs:w.heap.size≤w'.heap.size) {k g:Nat}:∀ (l:List Dat) {i:Nat}{F:List Nat},OwnAll w k g i l F→w'.heap[g]?=w.heap[g]?→(∀ b∈F,w'.heap[b]?=w.heap[b]?)→OwnAll w' k g i l F
 | [],i,F,h,_,_=>by rw[OwnAll]at h ⊢;exact h
 | d::r,i,F,h,hg,ha=>by
  rw[OwnAll]at h ⊢;obtain⟨cs,F1,F2,rfl,hk,hc,hd,hr⟩:=h;refine⟨cs,F1,F2,rfl,hk,fun m u hm=>?_,OwnD.agree hs d hd (fun b hb=>ha b (List.mem_append_left _ hb)),OwnAll.agree hs r hr hg (fun b hb=>ha b (List.mem_append_right _ hb))⟩;have:=hc m u hm;exact⟨by rw[show w'.cell? ⟨g,i*k+m,none⟩=w.cell? ⟨g,i*k+m,none⟩ from by unfold World.cell?;rw[show w'.heap[(⟨g,i*k+m,none⟩:Addr).block]?=w.heap[(⟨g,i*k+m,none⟩:Addr).block]? from hg]];exact this.1,by rw[show w'.frozen? ⟨g,i*k+m,none⟩=w.frozen? ⟨g,i*k+m,none⟩ from by unfold World.frozen?;rw[show w'.heap[(⟨g,i*k+m,none⟩:Addr).block]?=w.heap[(⟨g,i*k+m,none⟩:Addr).block]? from hg]];exact this.2⟩
end
structure Own (base:Nat) (w:World) (d:Dat) (cs:List Value) (F:List Nat):Prop where
 own:OwnD w d cs F
 nodup:F.Nodup
 fresh:∀ b∈F,base≤b∧b<w.heap.size
theorem Own.rd {base:Nat}{w:World}{d:Dat}{cs:List Value}{F:List Nat}(h:Own base w d cs F):RdD w d cs:=h.own.rd
theorem Own.agree {base:Nat}{w w':World}{d:Dat}{cs:List Value}{F:List Nat}(h:Own base w d cs F) (hs:w.heap.size≤w'.heap.size) (ha:∀ b,base≤b→b<w.heap.size→w'.heap[b]?=w.heap[b]?):Own base w' d cs F :=
 ⟨OwnD.agree hs d h.own (fun b hbF=>ha b (h.fresh b hbF).1 (h.fresh b hbF).2),h.nodup,fun b hbF=>⟨(h.fresh b hbF).1,Nat.lt_of_lt_of_le (h.fresh b hbF).2 hs⟩⟩
theorem bcell {W w1:World}(hb:Later W w1):(∀ b o,b<W.heap.size→w1.cell? ⟨b,o,none⟩=W.cell? ⟨b,o,none⟩)∧(∀ b o,b<W.heap.size→w1.frozen? ⟨b,o,none⟩=W.frozen? ⟨b,o,none⟩) :=
 ⟨fun b o h=>Below.cell hb (p:=⟨b,o,none⟩) h,fun b o h=>Below.frozen hb (p:=⟨b,o,none⟩) h⟩
theorem later3 (w:World) (o o' o'':Obj):Later w (((w.alloc o).alloc o').alloc o''):=(((Below.refl _ _).alloc (Nat.le_refl _) _).alloc (by simp) _).alloc (by simp;omega) _
theorem Later.set {w w':World}(h:Later w w') {a:Addr}(ha:w.heap.size≤a.block) (v:Value):Later w (w'.setCell a v):=Below.setCell h ha v
theorem Later.setAt {w w':World}(h:Later w w') {b:Nat}(hb:w.heap.size≤b) (o:Nat) (v:Value):Later w (w'.setCell ⟨b,o,none⟩ v):=Below.setCell h hb v
theorem Later.alloc {w w':World}(h:Later w w') (o:Obj):Later w (w'.alloc o):=h.trans (later1 _ _)
structure Kept (lo:Nat) (w w':World):Prop where
 size:w.heap.size≤w'.heap.size
 block:∀ b,lo≤b→b<w.heap.size→w'.heap[b]?=w.heap[b]?
theorem Kept.refl (lo:Nat) (w:World):Kept lo w w:=⟨Nat.le_refl _,fun _ _ _=>rfl⟩
theorem Kept.set {lo:Nat}{w w':World}(h:Kept lo w w') {a:Addr}(ha:a.block<lo) (v:Value):Kept lo w (w'.setCell a v) :=
 ⟨by rw[World.size_setCell];exact h.size,fun b hb hw=>by rw[Below.heap_setCell _ _ _ _ (by omega)];exact h.block b hb hw⟩
theorem Kept.setAt {lo:Nat}{w w':World}(h:Kept lo w w') {b:Nat}(hb:b<lo) (o:Nat) (v:Value):Kept lo w (w'.setCell ⟨b,o,none⟩ v):=h.set hb v
theorem Kept.later {lo:Nat}{w w' w'':World}(h:Kept lo w w') (hl:Later w' w''):Kept lo w w'' :=
 ⟨Nat.le_trans h.size hl.size,fun b hb hw=>by rw[hl.block b (Nat.lt_of_lt_of_le hw h.size)];exact h.block b hb hw⟩
def Fr (lo hi:Nat) (F:List Nat):Prop:=F.Nodup∧∀ b∈F,lo≤b∧b<hi
theorem Fr.nil (lo hi:Nat):Fr lo hi []:=⟨List.nodup_nil,fun b hb=>by cases hb⟩
theorem Fr.one {lo hi g:Nat}(h:lo≤g) (h':g<hi):Fr lo hi [g]:=⟨by simp,fun b hb=>by rw[List.mem_singleton.1 hb];exact⟨h,h'⟩⟩
theorem Fr.mono {lo hi lo' hi':Nat}{F:List Nat}(h:Fr lo hi F) (h1:lo'≤lo) (h2:hi≤hi'):Fr lo' hi' F:=⟨h.1,fun b hb=>by have:=h.2 b hb;omega⟩
theorem Fr.app {lo mid hi:Nat}{F G:List Nat}(h:Fr lo mid F) (k:Fr mid hi G) (h1:lo≤mid) (h2:mid≤hi):Fr lo hi (F++G):=by
 refine⟨List.nodup_append.2 ⟨h.1,k.1,fun a ha b hb e=>?_⟩,fun b hb=>?_⟩
 ·have x:=h.2 a ha;have y:=k.2 b hb;omega
 ·rcases List.mem_append.1 hb with hb|hb
  ·have:=h.2 b hb;omega
  ·have:=k.2 b hb;omega
theorem Own.mk' {base:Nat}{w:World}{d:Dat}{cs:List Value}{F:List Nat}(h:OwnD w d cs F) (f:Fr base w.heap.size F):Own base w d cs F:=⟨h,f.1,f.2⟩
theorem Own.fr {base:Nat}{w:World}{d:Dat}{cs:List Value}{F:List Nat}(h:Own base w d cs F):Fr base w.heap.size F:=⟨h.nodup,h.fresh⟩
theorem Own.kept {base:Nat}{w w':World}{d:Dat}{cs:List Value}{F:List Nat}(h:Own base w d cs F) (hk:Kept base w w'):OwnD w' d cs F:=(h.agree hk.size hk.block).own
def puts (w:World) (g o:Nat):List Value→World
 | []=>w
 | c::r=>puts (w.setCell ⟨g,o,none⟩ c) g (o+1) r
theorem puts_size (g:Nat):∀ (cs:List Value) (w:World) (o:Nat),(puts w g o cs).heap.size=w.heap.size
 | [],_,_=>rfl
 | c::r,w,o=>by rw[puts,puts_size g r,World.size_setCell]
theorem puts_frozen (g:Nat) (a:Addr):∀ (cs:List Value) (w:World) (o:Nat),(puts w g o cs).frozen? a=w.frozen? a
 | [],_,_=>rfl
 | c::r,w,o=>by rw[puts,puts_frozen g a r,World.frozen?_setCell]
theorem puts_block (g b:Nat) (hb:b≠g):∀ (cs:List Value) (w:World) (o:Nat),(puts w g o cs).heap[b]?=w.heap[b]?
 | [],_,_=>rfl
 | c::r,w,o=>by rw[puts,puts_block g b hb r,Below.heap_setCell _ _ _ _ hb]
theorem puts_other (g o':Nat):∀ (cs:List Value) (w:World) (o:Nat),(o'<o∨o+cs.length≤o')→(puts w g o cs).cell? ⟨g,o',none⟩=w.cell? ⟨g,o',none⟩
 | [],_,_,_=>rfl
 | c::r,w,o,h=>by
  rw[List.length_cons]at h;rw[puts,puts_other g o' r _ _ (by omega),set_off _ _ _ (by omega)]
theorem puts_at (g:Nat):∀ (cs:List Value) (w:World) (o:Nat),(∀ m,m<cs.length→∃ u,w.cell? ⟨g,o+m,none⟩=some u)→∀ m u,cs[m]?=some u→(puts w g o cs).cell? ⟨g,o+m,none⟩=some u
 | [],_,_,_,m,u,h=>by simp at h
 | c::r,w,o,he,0,u,h=>by
  have hu:c=u:=by simpa using h
  obtain⟨x,hx⟩:=he 0 (by simp);rw[puts,puts_other g _ r _ _ (by omega),hu];exact set_same hx
 | c::r,w,o,he,m+1,u,h=>by
  rw[puts,show o+(m+1)=o+1+m by omega];refine puts_at g r _ _ (fun m' hm'=>?_) m u (by simpa using h);obtain⟨x,hx⟩:=he (m'+1) (by rw[List.length_cons];omega);refine⟨x,?_⟩;rw[set_off _ _ _ (by omega),← hx,show o+1+m'=o+(m'+1) by omega]
theorem puts_later {w0 w:World}(h:Later w0 w) {g:Nat}(hg:w0.heap.size≤g):∀ (cs:List Value) (o:Nat),Later w0 (puts w g o cs):=by
 intro cs
 induction cs generalizing w with
 | nil=>intro _;exact h
 | cons c r ih=>intro o;rw[puts];exact ih (h.set hg c) _
theorem OwnAll.snoc {w:World}{k g:Nat}{d:Dat}{cs:List Value}{G:List Nat}:∀ (l:List Dat) {i:Nat}{F:List Nat},OwnAll w k g i l F→cs.length=k→(∀ m u,cs[m]?=some u→w.cell? ⟨g,(i+l.length)*k+m,none⟩=some u∧w.frozen? ⟨g,(i+l.length)*k+m,none⟩=false)→OwnD w d cs G→OwnAll w k g i (l++[d]) (F++G)
 | [],i,F,h,hk,hc,hd=>by
  rw[OwnAll]at h;subst h;rw[List.nil_append,List.nil_append,OwnAll];exact⟨cs,G,[],by rw[List.append_nil],hk,hc,hd,by rw[OwnAll]⟩
 | x::r,i,F,h,hk,hc,hd=>by
  rw[OwnAll]at h;obtain⟨c1,F1,F2,rfl,hk1,hc1,hd1,hr⟩:=h;rw[List.cons_append,OwnAll];refine⟨c1,F1,F2++G,by rw[List.append_assoc],hk1,hc1,hd1,OwnAll.snoc r hr hk ?_ hd⟩;rw[List.length_cons]at hc;rw[show i+1+r.length=i+(r.length+1) by omega];exact hc
theorem OwnAll.agree' {w w':World}(hs:w.heap.size≤w'.heap.size) {k g:Nat}:∀ (l:List Dat) {i:Nat}{F:List Nat},OwnAll w k g i l F→(∀ o,i*k≤o→o<(i+l.length)*k→w'.cell? ⟨g,o,none⟩=w.cell? ⟨g,o,none⟩∧w'.frozen? ⟨g,o,none⟩=w.frozen? ⟨g,o,none⟩)→(∀ b∈F,w'.heap[b]?=w.heap[b]?)→OwnAll w' k g i l F
 | [],i,F,h,_,_=>by rw[OwnAll]at h ⊢;exact h
 | d::r,i,F,h,hg,ha=>by
  rw[OwnAll]at h ⊢;obtain⟨cs,F1,F2,rfl,hk,hc,hd,hr⟩:=h;rw[List.length_cons]at hg;have e1:(i+1)*k=i*k+k:=Nat.succ_mul i k;have e2:(i+(r.length+1))*k=(i+1+r.length)*k:=by rw[show i+(r.length+1)=i+1+r.length by omega]
  have e3:(i+1)*k≤(i+1+r.length)*k:=Nat.mul_le_mul_right _ (by omega);refine⟨cs,F1,F2,rfl,hk,fun m u hm=>?_,OwnD.agree hs d hd (fun b hb=>ha b (List.mem_append_left _ hb)),OwnAll.agree' hs r hr (fun o h1 h2=>hg o (by omega) (by omega)) (fun b hb=>ha b (List.mem_append_right _ hb))⟩
  have hml:m<k:=by
   rw[←hk];rcases Nat.lt_or_ge m cs.length with h|h
   ·exact h
   ·rw[List.getElem?_eq_none h]at hm;cases hm
  have:=hc m u hm;obtain⟨x,y⟩:=hg (i*k+m) (by omega) (by omega);exact⟨by rw[x];exact this.1,by rw[y];exact this.2⟩
structure Row (w wr:World) (k n j:Nat) (l:List Dat) (F:List Nat):Prop where
 all:OwnAll wr k w.heap.size 0 (l.take j) F
 fr:Fr (w.heap.size+1) wr.heap.size F
 cell:∀ o,o<n*k→(∃ u,wr.cell? ⟨w.heap.size,o,none⟩=some u)∧wr.frozen? ⟨w.heap.size,o,none⟩=false
 lt:w.heap.size<wr.heap.size
 later:Later w wr
theorem Row.at {w wr:World}{k n j:Nat}{l:List Dat}{F:List Nat}(h:Row w wr k n j l F) (hj:j<n) (m:Nat) (hm:m<k):(∃ u,wr.cell? ⟨w.heap.size,j*k+m,none⟩=some u)∧wr.frozen? ⟨w.heap.size,j*k+m,none⟩=false:=by
 refine h.cell _ ?_;have:(j+1)*k≤n*k:=Nat.mul_le_mul_right _ hj;rw[Nat.succ_mul]at this;omega
theorem Row.start {w w1:World}{t:TypeId}{k n cap:Nat}{xs:List Value}(ho:w1.ownsRow w.heap.size t k (.slice (some ⟨w.heap.size,0,none⟩) n cap) n xs) (hx:xs.length=n*k) (hl:Later w w1) (l:List Dat):Row w w1 k n 0 l []:=by
 refine⟨by rw[List.take_zero,OwnAll],Fr.nil _ _,fun o h=>⟨⟨xs[o]'(by omega),?_⟩,ho.frozenAt o⟩,(ho.lt w.heap.size rfl).2,hl⟩
 rw[ho.cellAt o (by omega),List.getElem?_eq_getElem (by omega)]
theorem Row.next {w wr w1:World}{k n j:Nat}{l:List Dat}{F:List Nat}(h:Row w wr k n j l F) (hj:j<l.length) (hn:l.length=n) {cs:List Value}{G:List Nat}(hk:cs.length=k) (hd:Own wr.heap.size w1 l[j] cs G) (hl:Later wr w1) :
  ∃ F',Row w (puts w1 w.heap.size (j*k) cs) k n (j+1) l F':=by
 have hlt:=h.lt;have hs:=hl.size
 have hcell:∀ o,o<n*k→(∃ u,w1.cell? ⟨w.heap.size,o,none⟩=some u)∧w1.frozen? ⟨w.heap.size,o,none⟩=false:=fun o ho=>by
  obtain⟨⟨u,hu⟩,hf⟩:=h.cell o ho;exact⟨⟨u,by rw[Below.cell hl (p:=⟨w.heap.size,o,none⟩) hlt];exact hu⟩,by rw[Below.frozen hl (p:=⟨w.heap.size,o,none⟩) hlt];exact hf⟩
 have hjn:(j+1)*k≤n*k:=Nat.mul_le_mul_right _ (by omega);rw[Nat.succ_mul]at hjn;have htl:(l.take j).length=j:=by rw[List.length_take];omega
 refine⟨F++G,⟨?_,?_,fun o ho=>?_,by rw[puts_size];omega,puts_later (h.later.trans hl) (Nat.le_refl _) _ _⟩⟩
 ·rw[List.take_succ_eq_append_getElem hj];refine OwnAll.snoc _ (OwnAll.agree' (by rw[puts_size];exact hs) _ h.all (fun o h1 h2=>?_) (fun b hb=>?_)) hk (fun m u hm=>?_) (OwnD.agree (by rw[puts_size];exact Nat.le_refl _) _ hd.own (fun b hb=>?_))
  ·rw[htl,Nat.zero_add]at h2;refine⟨?_,?_⟩
   ·rw[puts_other _ _ _ _ _ (by omega),Below.cell hl (p:=⟨w.heap.size,o,none⟩) hlt]
   ·rw[puts_frozen,Below.frozen hl (p:=⟨w.heap.size,o,none⟩) hlt]
  ·have:=h.fr.2 b hb;rw[puts_block _ _ (by omega),hl.block b this.2]
  ·rw[htl,Nat.zero_add]
   have hml:m<k:=by
    rw[←hk];rcases Nat.lt_or_ge m cs.length with h|h
    ·exact h
    ·rw[List.getElem?_eq_none h]at hm;cases hm
   refine⟨puts_at _ _ _ _ (fun m' hm'=>(hcell _ (by omega)).1) m u hm,?_⟩;rw[puts_frozen];exact (hcell _ (by omega)).2
  ·have:=hd.fresh b hb;rw[puts_block _ _ (by omega)]
 ·rw[puts_size];exact h.fr.app hd.fr (by omega) hs
 ·obtain⟨⟨u,hu⟩,hf⟩:=hcell o ho;refine⟨?_,by rw[puts_frozen];exact hf⟩;rcases Nat.lt_or_ge o (j*k) with a|a
  ·exact⟨u,by rw[puts_other _ _ _ _ _ (by omega)];exact hu⟩
  ·rcases Nat.lt_or_ge o (j*k+k) with b|b
   ·have hm:o - j*k<cs.length:=by omega
    have:=puts_at w.heap.size cs w1 (j*k) (fun m' hm'=>(hcell _ (by omega)).1) (o - j*k) _ (List.getElem?_eq_getElem hm);rw[show j*k+(o - j*k)=o by omega]at this;exact⟨_,this⟩
   ·exact⟨u,by rw[puts_other _ _ _ _ _ (by omega)];exact hu⟩
theorem Row.done {w wr:World}{k n cap:Nat}{l:List Dat}{F:List Nat}(h:Row w wr k n n l F) (hn:l.length=n) (hs:n≤1048576) (hcap:n≤cap∧cap≤maxLen):∃ G,Own w.heap.size wr (.list k l) [.slice (some ⟨w.heap.size,0,none⟩) n cap] G:=by
 have hlt:=h.lt;have e:l.take n=l:=List.take_of_length_le (by omega);have ha:=h.all;rw[e]at ha;rcases Nat.eq_zero_or_pos n with h0|h0
 ·refine⟨[],Own.mk' ?_ (Fr.nil _ _)⟩;rw[OwnD,hn];exact⟨_,cap,rfl,⟨hs,hcap⟩,fun hp=>by omega,fun _=>rfl⟩
 ·refine⟨w.heap.size::F,Own.mk' ?_ ((Fr.one (Nat.le_refl _) (Nat.lt_succ_self _)).app h.fr (by omega) (by omega))⟩;rw[OwnD,hn];exact⟨_,cap,rfl,⟨hs,hcap⟩,fun _=>⟨_,F,rfl,rfl,hlt,ha⟩,fun hp=>by omega⟩
abbrev In:=Int
def In.dats (l:List In):List Dat:=l.map Dat.int
def In.szs (l:List In):Nat:=l.length
theorem In.dats_len (l:List In):(In.dats l).length=l.length:=List.length_map ..
theorem In.slice {w:World}{v:Value}{l:List In}(h:RdL w 1 v (In.dats l)):∃ a cap,v=.slice a l.length cap∧(l.length:Int)≤9223372036854775807:=by
 obtain⟨a,cap,e,hl⟩:=h.slice;rw[In.dats_len]at e hl;exact⟨a,cap,e,hl⟩
theorem In.elem {w:World}{a:Option Addr}{n cap:Nat}{l:List In}(h:RdL w 1 (.slice a n cap) (In.dats l)) (j:Nat) (hj:j<l.length):∃ g off,a=some ⟨g,off,none⟩∧g<w.heap.size∧w.cell? ⟨g,off+j,none⟩=some (.int .i64 l[j]):=by
 obtain⟨_,_,e,_,h⟩:=h
 cases e
 obtain⟨g,off,cs,rfl,hg,hk,hc,hd⟩:=h j (by rw[In.dats_len];exact hj)
 have e:(In.dats l)[j]'(by rw[In.dats_len];exact hj)=.int l[j]:=List.getElem_map ..
 rw[e,RdD]at hd;subst hd;have:=hc 0 _ rfl;rw[Nat.mul_one]at this;exact⟨g,off,rfl,hg,this⟩
abbrev Bo:=Bool
def Bo.dats (l:List Bo):List Dat:=l.map Dat.bool
def Bo.szs (l:List Bo):Nat:=l.length
theorem Bo.dats_len (l:List Bo):(Bo.dats l).length=l.length:=List.length_map ..
theorem Bo.slice {w:World}{v:Value}{l:List Bo}(h:RdL w 1 v (Bo.dats l)):∃ a cap,v=.slice a l.length cap∧(l.length:Int)≤9223372036854775807:=by
 obtain⟨a,cap,e,hl⟩:=h.slice;rw[Bo.dats_len]at e hl;exact⟨a,cap,e,hl⟩
theorem Bo.elem {w:World}{a:Option Addr}{n cap:Nat}{l:List Bo}(h:RdL w 1 (.slice a n cap) (Bo.dats l)) (j:Nat) (hj:j<l.length):∃ g off,a=some ⟨g,off,none⟩∧g<w.heap.size∧w.cell? ⟨g,off+j,none⟩=some (.bool l[j]):=by
 obtain⟨_,_,e,_,h⟩:=h
 cases e
 obtain⟨g,off,cs,rfl,hg,hk,hc,hd⟩:=h j (by rw[Bo.dats_len];exact hj)
 have e:(Bo.dats l)[j]'(by rw[Bo.dats_len];exact hj)=.bool l[j]:=List.getElem_map ..
 rw[e,RdD]at hd;subst hd;have:=hc 0 _ rfl;rw[Nat.mul_one]at this;exact⟨g,off,rfl,hg,this⟩
structure Is where
 op:Int
 a:Int
 b:Int
 c:Int
 n:Int
def Is.dat (p:Is):Dat:=.agg [.int p.op,.int p.a,.int p.b,.int p.c,.int p.n]
def Is.dats (l:List Is):List Dat:=l.map Is.dat
def Is.szs (l:List Is):Nat:=l.length
theorem Is.dats_len (l:List Is):(Is.dats l).length=l.length:=List.length_map ..
theorem Is.slice {w:World}{v:Value}{l:List Is}(h:RdL w 5 v (Is.dats l)):∃ a cap,v=.slice a l.length cap∧(l.length:Int)≤9223372036854775807:=by
 obtain⟨a,cap,e,hl⟩:=h.slice;rw[Is.dats_len]at e hl;exact⟨a,cap,e,hl⟩
theorem Is.view {w:World}{p:Is}{cs:List Value}(h:RdD w (Is.dat p) cs):cs=[.int .i64 p.op,.int .i64 p.a,.int .i64 p.b,.int .i64 p.c,.int .i64 p.n]:=by
 unfold Is.dat at h;rw[RdD,RdAgg]at h;obtain⟨c0,d0,rfl,h0,h⟩:=h;rw[RdAgg]at h;obtain⟨c1,d1,rfl,h1,h⟩:=h;rw[RdAgg]at h;obtain⟨c2,d2,rfl,h2,h⟩:=h;rw[RdAgg]at h;obtain⟨c3,d3,rfl,h3,h⟩:=h;rw[RdAgg]at h;obtain⟨c4,d4,rfl,h4,h⟩:=h;rw[RdAgg]at h;rw[RdD]at h0 h1 h2 h3 h4;subst h0 h1 h2 h3 h4 h;rfl
theorem Is.unview {w:World}{p:Is}:RdD w (Is.dat p) [.int .i64 p.op,.int .i64 p.a,.int .i64 p.b,.int .i64 p.c,.int .i64 p.n]:=by
 unfold Is.dat;rw[RdD,RdAgg];refine⟨[_],_,rfl,by rw[RdD],?_⟩;rw[RdAgg];refine⟨[_],_,rfl,by rw[RdD],?_⟩;rw[RdAgg];refine⟨[_],_,rfl,by rw[RdD],?_⟩;rw[RdAgg];refine⟨[_],_,rfl,by rw[RdD],?_⟩;rw[RdAgg];refine⟨[_],_,rfl,by rw[RdD],?_⟩;rw[RdAgg]
theorem Is.elem {w:World}{a:Option Addr}{n cap:Nat}{l:List Is}(h:RdL w 5 (.slice a n cap) (Is.dats l)) (j:Nat) (hj:j<l.length):∃ g off,a=some ⟨g,off,none⟩∧g<w.heap.size∧w.cell? ⟨g,off+j*5,none⟩=some (.int .i64 l[j].op)∧w.cell? ⟨g,off+j*5+1,none⟩=some (.int .i64 l[j].a)∧w.cell? ⟨g,off+j*5+2,none⟩=some (.int .i64 l[j].b)∧w.cell? ⟨g,off+j*5+3,none⟩=some (.int .i64 l[j].c)∧w.cell? ⟨g,off+j*5+4,none⟩=some (.int .i64 l[j].n):=by
 obtain⟨_,_,e,_,h⟩:=h
 cases e
 obtain⟨g,off,cs,rfl,hg,hk,hc,hd⟩:=h j (by rw[Is.dats_len];exact hj)
 have e:(Is.dats l)[j]'(by rw[Is.dats_len];exact hj)=Is.dat l[j]:=List.getElem_map ..
 rw[e]at hd;obtain rfl:=Is.view hd;exact⟨g,off,rfl,hg,hc 0 _ rfl,hc 1 _ rfl,hc 2 _ rfl,hc 3 _ rfl,hc 4 _ rfl⟩
inductive Bs where
 | mk (l:List Bo)
def Bs.l:Bs→List Bo|.mk x=>x
def Bs.dat:Bs→Dat
 | .mk l=>.agg [.list 1 (Bo.dats l)]
def Bs.dats:List Bs→List Dat
 | []=>[]
 | x::r=>x.dat::Bs.dats r
def Bs.sz:Bs→Nat
 | .mk l=>Bo.szs l
def Bs.szs:List Bs→Nat
 | []=>0
 | x::r=>1+x.sz+Bs.szs r
theorem Bs.dats_len (l:List Bs):(Bs.dats l).length=l.length:=by
 induction l with
 | nil=>rfl
 | cons x r ih=>rw[Bs.dats,List.length_cons,List.length_cons,ih]
theorem Bs.dats_at:∀ (l:List Bs) (j:Nat) (h:j<l.length) (h':j<(Bs.dats l).length),(Bs.dats l)[j]=l[j].dat
 | x::r,0,_,_=>rfl
 | x::r,j+1,h,h'=>Bs.dats_at r j (by simpa using h) (by rw[Bs.dats_len];simpa using h)
theorem Bs.view {w:World}{x:Bs}{cs:List Value}(h:RdD w x.dat cs):∃ v0,cs=[v0]∧RdL w 1 v0 (Bo.dats x.l):=by
 obtain⟨l⟩:=x;rw[Bs.dat,RdD]at h;rw[RdAgg]at h;obtain⟨c0,d0,rfl,h0,h⟩:=h;obtain⟨u0,rfl,k0⟩:=RdL.iff.1 h0;rw[RdAgg]at h;subst h;exact⟨u0,rfl,k0⟩
theorem Bs.unview {w:World}{x:Bs}{v0:Value}(h0:RdL w 1 v0 (Bo.dats x.l)):RdD w x.dat [v0]:=by
 obtain⟨l⟩:=x;rw[Bs.dat,RdD];rw[RdAgg];refine⟨[_],_,rfl,RdL.iff.2 ⟨_,rfl,h0⟩,?_⟩;rw[RdAgg]
theorem Bs.slice {w:World}{v:Value}{l:List Bs}(h:RdL w 1 v (Bs.dats l)):∃ a cap,v=.slice a l.length cap∧(l.length:Int)≤9223372036854775807:=by
 obtain⟨a,cap,e,hl⟩:=h.slice;rw[Bs.dats_len]at e hl;exact⟨a,cap,e,hl⟩
theorem Bs.elem {w:World}{a:Option Addr}{n cap:Nat}{l:List Bs}(h:RdL w 1 (.slice a n cap) (Bs.dats l)) (j:Nat) (hj:j<l.length):∃ g off v0,a=some ⟨g,off,none⟩∧g<w.heap.size∧w.cell? ⟨g,off+j*1,none⟩=some (v0)∧RdL w 1 v0 (Bo.dats l[j].l):=by
 obtain⟨_,_,e,_,h⟩:=h
 cases e
 obtain⟨g,off,cs,rfl,hg,hk,hc,hd⟩:=h j (by rw[Bs.dats_len];exact hj);rw[Bs.dats_at l j hj]at hd;obtain⟨v0,rfl,r0⟩:=Bs.view hd;exact⟨g,off,v0,rfl,hg,hc 0 _ rfl,r0⟩
theorem Bs.szs_ge (l:List Bs):l.length≤Bs.szs l:=by
 induction l with
 | nil=>exact Nat.le_refl _
 | cons x r ih=>rw[Bs.szs,List.length_cons];omega
theorem Bs.sz_at:∀ (l:List Bs) (j:Nat) (h:j<l.length),l[j].sz+l.length≤Bs.szs l
 | x::r,0,_=>by rw[Bs.szs];have:=Bs.szs_ge r;simp only[List.getElem_cons_zero,List.length_cons];omega
 | x::r,j+1,h=>by rw[Bs.szs];have:=Bs.sz_at r j (by simpa using h);simp only[List.getElem_cons_succ,List.length_cons];omega
def Bs.pre (l:List Bs) (k:Nat):Nat:=Bs.szs (l.take k) - k
theorem Bs.pre_zero (l:List Bs):Bs.pre l 0=0:=rfl
theorem Bs.szs_app (l r:List Bs):Bs.szs (l++r)=Bs.szs l+Bs.szs r:=by
 induction l with
 | nil=>rw[List.nil_append,Bs.szs,Nat.zero_add]
 | cons x l ih=>rw[List.cons_append,Bs.szs,Bs.szs,ih];omega
theorem Bs.pre_succ {l:List Bs}{k:Nat}(h:k<l.length):Bs.pre l (k+1)=Bs.pre l k+l[k].sz:=by
 unfold Bs.pre;rw[List.take_succ_eq_append_getElem h,Bs.szs_app,Bs.szs,Bs.szs];have:=Bs.szs_ge (l.take k);rw[List.length_take,Nat.min_eq_left (by omega)]at this;omega
theorem Bs.pre_all (l:List Bs):l.length+Bs.pre l l.length=Bs.szs l:=by
 unfold Bs.pre;rw[List.take_length];have:=Bs.szs_ge l;omega
theorem Bs.pre_le (l:List Bs) (k:Nat) (h:k≤l.length):l.length+Bs.pre l k≤Bs.szs l:=by
 have e:Bs.szs l=Bs.szs (l.take k)+Bs.szs (l.drop k):=by rw[←Bs.szs_app,List.take_append_drop]
 have h1:=Bs.szs_ge (l.take k);have h2:=Bs.szs_ge (l.drop k);rw[List.length_take,Nat.min_eq_left h]at h1;rw[List.length_drop]at h2;unfold Bs.pre;omega
inductive Ma where
 | mk (pc:Int) (slots:List In)
def Ma.pc:Ma→Int|.mk x _=>x
def Ma.slots:Ma→List In|.mk _ x=>x
def Ma.dat:Ma→Dat
 | .mk pc slots=>.agg [.int pc,.list 1 (In.dats slots)]
def Ma.dats:List Ma→List Dat
 | []=>[]
 | x::r=>x.dat::Ma.dats r
def Ma.sz:Ma→Nat
 | .mk _ slots=>In.szs slots
def Ma.szs:List Ma→Nat
 | []=>0
 | x::r=>1+x.sz+Ma.szs r
theorem Ma.dats_len (l:List Ma):(Ma.dats l).length=l.length:=by
 induction l with
 | nil=>rfl
 | cons x r ih=>rw[Ma.dats,List.length_cons,List.length_cons,ih]
theorem Ma.dats_at:∀ (l:List Ma) (j:Nat) (h:j<l.length) (h':j<(Ma.dats l).length),(Ma.dats l)[j]=l[j].dat
 | x::r,0,_,_=>rfl
 | x::r,j+1,h,h'=>Ma.dats_at r j (by simpa using h) (by rw[Ma.dats_len];simpa using h)
theorem Ma.view {w:World}{x:Ma}{cs:List Value}(h:RdD w x.dat cs):∃ v0,cs=[.int .i64 x.pc,v0]∧RdL w 1 v0 (In.dats x.slots):=by
 obtain⟨pc,slots⟩:=x;rw[Ma.dat,RdD]at h;rw[RdAgg]at h;obtain⟨c0,d0,rfl,h0,h⟩:=h;rw[RdD]at h0;subst h0;rw[RdAgg]at h;obtain⟨c1,d1,rfl,h1,h⟩:=h;obtain⟨u1,rfl,k1⟩:=RdL.iff.1 h1;rw[RdAgg]at h;subst h;exact⟨u1,rfl,k1⟩
theorem Ma.unview {w:World}{x:Ma}{v0:Value}(h0:RdL w 1 v0 (In.dats x.slots)):RdD w x.dat [.int .i64 x.pc,v0]:=by
 obtain⟨pc,slots⟩:=x;rw[Ma.dat,RdD];rw[RdAgg];refine⟨[_],_,rfl,by rw[RdD];rfl,?_⟩;rw[RdAgg];refine⟨[_],_,rfl,RdL.iff.2 ⟨_,rfl,h0⟩,?_⟩;rw[RdAgg]
theorem Ma.slice {w:World}{v:Value}{l:List Ma}(h:RdL w 2 v (Ma.dats l)):∃ a cap,v=.slice a l.length cap∧(l.length:Int)≤9223372036854775807:=by
 obtain⟨a,cap,e,hl⟩:=h.slice;rw[Ma.dats_len]at e hl;exact⟨a,cap,e,hl⟩
theorem Ma.elem {w:World}{a:Option Addr}{n cap:Nat}{l:List Ma}(h:RdL w 2 (.slice a n cap) (Ma.dats l)) (j:Nat) (hj:j<l.length):∃ g off v0,a=some ⟨g,off,none⟩∧g<w.heap.size∧w.cell? ⟨g,off+j*2,none⟩=some (.int .i64 l[j].pc)∧w.cell? ⟨g,off+j*2+1,none⟩=some (v0)∧RdL w 1 v0 (In.dats l[j].slots):=by
 obtain⟨_,_,e,_,h⟩:=h
 cases e
 obtain⟨g,off,cs,rfl,hg,hk,hc,hd⟩:=h j (by rw[Ma.dats_len];exact hj);rw[Ma.dats_at l j hj]at hd;obtain⟨v0,rfl,r0⟩:=Ma.view hd;exact⟨g,off,v0,rfl,hg,hc 0 _ rfl,hc 1 _ rfl,r0⟩
theorem Ma.szs_ge (l:List Ma):l.length≤Ma.szs l:=by
 induction l with
 | nil=>exact Nat.le_refl _
 | cons x r ih=>rw[Ma.szs,List.length_cons];omega
theorem Ma.sz_at:∀ (l:List Ma) (j:Nat) (h:j<l.length),l[j].sz+l.length≤Ma.szs l
 | x::r,0,_=>by rw[Ma.szs];have:=Ma.szs_ge r;simp only[List.getElem_cons_zero,List.length_cons];omega
 | x::r,j+1,h=>by rw[Ma.szs];have:=Ma.sz_at r j (by simpa using h);simp only[List.getElem_cons_succ,List.length_cons];omega
def Ma.pre (l:List Ma) (k:Nat):Nat:=Ma.szs (l.take k) - k
theorem Ma.pre_zero (l:List Ma):Ma.pre l 0=0:=rfl
theorem Ma.szs_app (l r:List Ma):Ma.szs (l++r)=Ma.szs l+Ma.szs r:=by
 induction l with
 | nil=>rw[List.nil_append,Ma.szs,Nat.zero_add]
 | cons x l ih=>rw[List.cons_append,Ma.szs,Ma.szs,ih];omega
theorem Ma.pre_succ {l:List Ma}{k:Nat}(h:k<l.length):Ma.pre l (k+1)=Ma.pre l k+l[k].sz:=by
 unfold Ma.pre;rw[List.take_succ_eq_append_getElem h,Ma.szs_app,Ma.szs,Ma.szs];have:=Ma.szs_ge (l.take k);rw[List.length_take,Nat.min_eq_left (by omega)]at this;omega
theorem Ma.pre_all (l:List Ma):l.length+Ma.pre l l.length=Ma.szs l:=by
 unfold Ma.pre;rw[List.take_length];have:=Ma.szs_ge l;omega
theorem Ma.pre_le (l:List Ma) (k:Nat) (h:k≤l.length):l.length+Ma.pre l k≤Ma.szs l:=by
 have e:Ma.szs l=Ma.szs (l.take k)+Ma.szs (l.drop k):=by rw[←Ma.szs_app,List.take_append_drop]
 have h1:=Ma.szs_ge (l.take k);have h2:=Ma.szs_ge (l.drop k);rw[List.length_take,Nat.min_eq_left h]at h1;rw[List.length_drop]at h2;unfold Ma.pre;omega
inductive Cd where
 | mk (frame:Int) (params:Int) (ins:List Is) (maps:List Ma)
def Cd.frame:Cd→Int|.mk x _ _ _=>x
def Cd.params:Cd→Int|.mk _ x _ _=>x
def Cd.ins:Cd→List Is|.mk _ _ x _=>x
def Cd.maps:Cd→List Ma|.mk _ _ _ x=>x
def Cd.dat:Cd→Dat
 | .mk frame params ins maps=>.agg [.int frame,.int params,.list 5 (Is.dats ins),.list 2 (Ma.dats maps)]
def Cd.dats:List Cd→List Dat
 | []=>[]
 | x::r=>x.dat::Cd.dats r
def Cd.sz:Cd→Nat
 | .mk _ _ ins maps=>Is.szs ins+Ma.szs maps
def Cd.szs:List Cd→Nat
 | []=>0
 | x::r=>1+x.sz+Cd.szs r
theorem Cd.dats_len (l:List Cd):(Cd.dats l).length=l.length:=by
 induction l with
 | nil=>rfl
 | cons x r ih=>rw[Cd.dats,List.length_cons,List.length_cons,ih]
theorem Cd.dats_at:∀ (l:List Cd) (j:Nat) (h:j<l.length) (h':j<(Cd.dats l).length),(Cd.dats l)[j]=l[j].dat
 | x::r,0,_,_=>rfl
 | x::r,j+1,h,h'=>Cd.dats_at r j (by simpa using h) (by rw[Cd.dats_len];simpa using h)
theorem Cd.view {w:World}{x:Cd}{cs:List Value}(h:RdD w x.dat cs):∃ v0 v1,cs=[.int .i64 x.frame,.int .i64 x.params,v0,v1]∧RdL w 5 v0 (Is.dats x.ins)∧RdL w 2 v1 (Ma.dats x.maps):=by
 obtain⟨frame,params,ins,maps⟩:=x;rw[Cd.dat,RdD]at h;rw[RdAgg]at h;obtain⟨c0,d0,rfl,h0,h⟩:=h;rw[RdD]at h0;subst h0;rw[RdAgg]at h;obtain⟨c1,d1,rfl,h1,h⟩:=h;rw[RdD]at h1;subst h1;rw[RdAgg]at h;obtain⟨c2,d2,rfl,h2,h⟩:=h;obtain⟨u2,rfl,k2⟩:=RdL.iff.1 h2;rw[RdAgg]at h;obtain⟨c3,d3,rfl,h3,h⟩:=h;obtain⟨u3,rfl,k3⟩:=RdL.iff.1 h3;rw[RdAgg]at h;subst h;exact⟨u2,u3,rfl,k2,k3⟩
theorem Cd.unview {w:World}{x:Cd}{v0 v1:Value}(h0:RdL w 5 v0 (Is.dats x.ins)) (h1:RdL w 2 v1 (Ma.dats x.maps)):RdD w x.dat [.int .i64 x.frame,.int .i64 x.params,v0,v1]:=by
 obtain⟨frame,params,ins,maps⟩:=x;rw[Cd.dat,RdD];rw[RdAgg];refine⟨[_],_,rfl,by rw[RdD];rfl,?_⟩;rw[RdAgg];refine⟨[_],_,rfl,by rw[RdD];rfl,?_⟩;rw[RdAgg];refine⟨[_],_,rfl,RdL.iff.2 ⟨_,rfl,h0⟩,?_⟩;rw[RdAgg];refine⟨[_],_,rfl,RdL.iff.2 ⟨_,rfl,h1⟩,?_⟩;rw[RdAgg]
theorem Cd.slice {w:World}{v:Value}{l:List Cd}(h:RdL w 4 v (Cd.dats l)):∃ a cap,v=.slice a l.length cap∧(l.length:Int)≤9223372036854775807:=by
 obtain⟨a,cap,e,hl⟩:=h.slice;rw[Cd.dats_len]at e hl;exact⟨a,cap,e,hl⟩
theorem Cd.elem {w:World}{a:Option Addr}{n cap:Nat}{l:List Cd}(h:RdL w 4 (.slice a n cap) (Cd.dats l)) (j:Nat) (hj:j<l.length):∃ g off v0 v1,a=some ⟨g,off,none⟩∧g<w.heap.size∧w.cell? ⟨g,off+j*4,none⟩=some (.int .i64 l[j].frame)∧w.cell? ⟨g,off+j*4+1,none⟩=some (.int .i64 l[j].params)∧w.cell? ⟨g,off+j*4+2,none⟩=some (v0)∧w.cell? ⟨g,off+j*4+3,none⟩=some (v1)∧RdL w 5 v0 (Is.dats l[j].ins)∧RdL w 2 v1 (Ma.dats l[j].maps):=by
 obtain⟨_,_,e,_,h⟩:=h
 cases e
 obtain⟨g,off,cs,rfl,hg,hk,hc,hd⟩:=h j (by rw[Cd.dats_len];exact hj);rw[Cd.dats_at l j hj]at hd;obtain⟨v0,v1,rfl,r0,r1⟩:=Cd.view hd;exact⟨g,off,v0,v1,rfl,hg,hc 0 _ rfl,hc 1 _ rfl,hc 2 _ rfl,hc 3 _ rfl,r0,r1⟩
theorem Cd.szs_ge (l:List Cd):l.length≤Cd.szs l:=by
 induction l with
 | nil=>exact Nat.le_refl _
 | cons x r ih=>rw[Cd.szs,List.length_cons];omega
theorem Cd.sz_at:∀ (l:List Cd) (j:Nat) (h:j<l.length),l[j].sz+l.length≤Cd.szs l
 | x::r,0,_=>by rw[Cd.szs];have:=Cd.szs_ge r;simp only[List.getElem_cons_zero,List.length_cons];omega
 | x::r,j+1,h=>by rw[Cd.szs];have:=Cd.sz_at r j (by simpa using h);simp only[List.getElem_cons_succ,List.length_cons];omega
def Cd.pre (l:List Cd) (k:Nat):Nat:=Cd.szs (l.take k) - k
theorem Cd.pre_zero (l:List Cd):Cd.pre l 0=0:=rfl
theorem Cd.szs_app (l r:List Cd):Cd.szs (l++r)=Cd.szs l+Cd.szs r:=by
 induction l with
 | nil=>rw[List.nil_append,Cd.szs,Nat.zero_add]
 | cons x l ih=>rw[List.cons_append,Cd.szs,Cd.szs,ih];omega
theorem Cd.pre_succ {l:List Cd}{k:Nat}(h:k<l.length):Cd.pre l (k+1)=Cd.pre l k+l[k].sz:=by
 unfold Cd.pre;rw[List.take_succ_eq_append_getElem h,Cd.szs_app,Cd.szs,Cd.szs];have:=Cd.szs_ge (l.take k);rw[List.length_take,Nat.min_eq_left (by omega)]at this;omega
theorem Cd.pre_all (l:List Cd):l.length+Cd.pre l l.length=Cd.szs l:=by
 unfold Cd.pre;rw[List.take_length];have:=Cd.szs_ge l;omega
theorem Cd.pre_le (l:List Cd) (k:Nat) (h:k≤l.length):l.length+Cd.pre l k≤Cd.szs l:=by
 have e:Cd.szs l=Cd.szs (l.take k)+Cd.szs (l.drop k):=by rw[←Cd.szs_app,List.take_append_drop]
 have h1:=Cd.szs_ge (l.take k);have h2:=Cd.szs_ge (l.drop k);rw[List.length_take,Nat.min_eq_left h]at h1;rw[List.length_drop]at h2;unfold Cd.pre;omega
inductive Im where
 | mk (structs:List Bs) (codes:List Cd) (main:Int)
def Im.structs:Im→List Bs|.mk x _ _=>x
def Im.codes:Im→List Cd|.mk _ x _=>x
def Im.main:Im→Int|.mk _ _ x=>x
def Im.dat:Im→Dat
 | .mk structs codes main=>.agg [.list 1 (Bs.dats structs),.list 4 (Cd.dats codes),.int main]
def Im.sz:Im→Nat
 | .mk structs codes _=>Bs.szs structs+Cd.szs codes
theorem Im.view {w:World}{x:Im}{cs:List Value}(h:RdD w x.dat cs):∃ v0 v1,cs=[v0,v1,.int .i64 x.main]∧RdL w 1 v0 (Bs.dats x.structs)∧RdL w 4 v1 (Cd.dats x.codes):=by
 obtain⟨structs,codes,main⟩:=x;rw[Im.dat,RdD]at h;rw[RdAgg]at h;obtain⟨c0,d0,rfl,h0,h⟩:=h;obtain⟨u0,rfl,k0⟩:=RdL.iff.1 h0;rw[RdAgg]at h;obtain⟨c1,d1,rfl,h1,h⟩:=h;obtain⟨u1,rfl,k1⟩:=RdL.iff.1 h1;rw[RdAgg]at h;obtain⟨c2,d2,rfl,h2,h⟩:=h;rw[RdD]at h2;subst h2;rw[RdAgg]at h;subst h;exact⟨u0,u1,rfl,k0,k1⟩
theorem Im.unview {w:World}{x:Im}{v0 v1:Value}(h0:RdL w 1 v0 (Bs.dats x.structs)) (h1:RdL w 4 v1 (Cd.dats x.codes)):RdD w x.dat [v0,v1,.int .i64 x.main]:=by
 obtain⟨structs,codes,main⟩:=x;rw[Im.dat,RdD];rw[RdAgg];refine⟨[_],_,rfl,RdL.iff.2 ⟨_,rfl,h0⟩,?_⟩;rw[RdAgg];refine⟨[_],_,rfl,RdL.iff.2 ⟨_,rfl,h1⟩,?_⟩;rw[RdAgg];refine⟨[_],_,rfl,by rw[RdD];rfl,?_⟩;rw[RdAgg]
end Go.Proofs.YtjnpncefkigcbaaGreat
