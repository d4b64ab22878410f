import Derived.Test.YtgholpilmdebmaaGreatDoorZ01
set_option maxHeartbeats 100000000
set_option maxRecDepth 100000
namespace Go.Proofs.YtgholpilmdebmaaGreatDoor
open Go.RowKit
structure RdN (w:World) (v:Value) (zs:List Int):Prop where
 rd:RdB w v zs
 cap:∃ a cap,v=.slice a zs.length cap∧zs.length≤cap∧cap≤maxLen
theorem RdN.later {w w':World}{v:Value}{zs:List Int}(h:RdN w v zs) (hb:Later w w'):RdN w' v zs:=⟨h.rd.later hb,h.cap⟩
inductive Dat where
 | int (n:Int)
 | bytes (zs:List Int)
 | agg (fs:List Dat)
 | list (k:Nat) (l:List Dat)
mutual
def RdD (w:World):Dat→List Value→Prop
 | .int n,cs=>cs=[.int .i64 n]
 | .bytes zs,cs=>∃ v,cs=[v]∧RdN w v zs
 | .agg fs,cs=>RdAgg w fs cs
 | .list k l,cs=>∃ a cap,cs=[.slice a l.length cap]∧(l.length≤cap∧cap≤maxLen)∧RdAll w k a 0 l
def RdAgg (w:World):List Dat→List Value→Prop
 | [],cs=>cs=[]
 | d::r,cs=>∃ c1 c2,cs=c1++c2∧RdD w d c1∧RdAgg w r c2
def RdAll (w:World) (k:Nat) (a:Option Addr):Nat→List Dat→Prop
 | _,[]=>True
 | i,d::r=>(∃ g off cs,a=some ⟨g,off,none⟩∧g<w.heap.size∧cs.length=k∧(∀ m u,cs[m]?=some u→w.cell? ⟨g,off+i*k+m,none⟩=some u)∧RdD w d cs)∧RdAll w k a (i+1) r
end
mutual
theorem RdD.later {w w':World}(hb:Later w w'):∀ (d:Dat) {cs:List Value},RdD w d cs→RdD w' d cs
 | .int n,cs,h=>by rw[RdD]at h ⊢;exact h
 | .bytes zs,cs,h=>by
  rw[RdD]at h ⊢;obtain⟨v,e,hr⟩:=h;exact⟨v,e,hr.later hb⟩
 | .agg fs,cs,h=>by rw[RdD]at h ⊢;exact RdAgg.later hb fs h
 | .list k l,cs,h=>by
  rw[RdD]at h ⊢;obtain⟨a,cap,e,hl,hr⟩:=h;exact⟨a,cap,e,hl,RdAll.later hb l hr⟩
theorem RdAgg.later {w w':World}(hb:Later w w'):∀ (fs:List Dat) {cs:List Value},RdAgg w fs cs→RdAgg w' fs cs
 | [],cs,h=>by rw[RdAgg]at h ⊢;exact h
 | d::r,cs,h=>by
  rw[RdAgg]at h ⊢;obtain⟨c1,c2,e,h1,h2⟩:=h;exact⟨c1,c2,e,RdD.later hb d h1,RdAgg.later hb r h2⟩
theorem RdAll.later {w w':World}(hb:Later w w') {k:Nat}{a:Option Addr}:∀ (l:List Dat) {i:Nat},RdAll w k a i l→RdAll w' k a i l
 | [],i,_=>by rw[RdAll];trivial
 | d::r,i,h=>by
  rw[RdAll]at h ⊢;obtain⟨⟨g,off,cs,e,hg,hk,hc,hd⟩,hr⟩:=h;exact⟨⟨g,off,cs,e,Nat.lt_of_lt_of_le hg hb.size,hk,fun m u hm=>by rw[Below.cell hb (p:=⟨g,off+i*k+m,none⟩) hg];exact hc m u hm,RdD.later hb d hd⟩,RdAll.later hb r hr⟩
end
theorem RdAll.at {w:World}{k:Nat}{a:Option Addr}:∀ (l:List Dat) {i:Nat},RdAll w k a i l→∀ j (hj:j<l.length),∃ g off cs,a=some ⟨g,off,none⟩∧g<w.heap.size∧cs.length=k∧(∀ m u,cs[m]?=some u→w.cell? ⟨g,off+(i+j)*k+m,none⟩=some u)∧RdD w l[j] cs
 | d::r,i,h,0,_=>by rw[RdAll]at h;exact h.1
 | d::r,i,h,j+1,hj=>by
  rw[RdAll]at h;have:=RdAll.at r h.2 j (by simpa using hj);rw[show i+1+j=i+(j+1) by omega]at this;exact this
theorem RdAll.of {w:World}{k:Nat}{a:Option Addr}:∀ (l:List Dat) {i:Nat},(∀ j (hj:j<l.length),∃ g off cs,a=some ⟨g,off,none⟩∧g<w.heap.size∧cs.length=k∧(∀ m u,cs[m]?=some u→w.cell? ⟨g,off+(i+j)*k+m,none⟩=some u)∧RdD w l[j] cs)→RdAll w k a i l
 | [],i,_=>by rw[RdAll];trivial
 | d::r,i,h=>by
  rw[RdAll];refine⟨h 0 (by simp),RdAll.of r fun j hj=>?_⟩;have:=h (j+1) (by simpa using hj);rw[show i+(j+1)=i+1+j by omega]at this;exact this
def RdL (w:World) (k:Nat) (v:Value) (l:List Dat):Prop:=∃ a cap,v=.slice a l.length cap∧(l.length≤cap∧cap≤maxLen) ∧
 ∀ j (hj:j<l.length),∃ g off cs,a=some ⟨g,off,none⟩∧g<w.heap.size∧cs.length=k∧(∀ m u,cs[m]?=some u→w.cell? ⟨g,off+j*k+m,none⟩=some u)∧RdD w l[j] cs
theorem RdL.iff {w:World}{k:Nat}{l:List Dat}{cs:List Value}:RdD w (.list k l) cs↔∃ v,cs=[v]∧RdL w k v l:=by
 rw[RdD];constructor
 ·rintro ⟨a,cap,rfl,hl,h⟩;exact⟨_,rfl,a,cap,rfl,hl,fun j hj=>by have:=RdAll.at l h j hj;rwa [Nat.zero_add]at this⟩
 ·rintro ⟨v,rfl,a,cap,rfl,hl,h⟩;exact⟨a,cap,rfl,hl,RdAll.of l fun j hj=>by rw[Nat.zero_add];exact h j hj⟩
theorem RdL.later {w w':World}(hb:Later w w') {k:Nat}{v:Value}{l:List Dat}(h:RdL w k v l):RdL w' k v l:=by
 have:=RdD.later hb (.list k l) (cs:=[v]) (RdL.iff.2 ⟨v,rfl,h⟩);obtain⟨v',e,h'⟩:=RdL.iff.1 this
 cases e
 exact h'
theorem RdL.cap {w:World}{k:Nat}{v:Value}{l:List Dat}(h:RdL w k v l):∃ a cap,v=.slice a l.length cap∧l.length≤cap∧cap≤maxLen:=by
 obtain⟨a,cap,e,hl,_⟩:=h;exact⟨a,cap,e,hl⟩
theorem RdL.slice {w:World}{k:Nat}{v:Value}{l:List Dat}(h:RdL w k v l):∃ a cap,v=.slice a l.length cap∧(l.length:Int)≤9223372036854775807:=by
 obtain⟨a,cap,e,hl,hm⟩:=h.cap;exact⟨a,cap,e,by unfold maxLen at hm;omega⟩
theorem RdN.iff {w:World}{zs:List Int}{cs:List Value}:RdD w (.bytes zs) cs↔∃ v,cs=[v]∧RdN w v zs:=by rw[RdD]
theorem RdB.slice {w:World}{v:Value}{zs:List Int}(h:RdB w v zs):∃ a cap,v=.slice a zs.length cap∧(zs.length:Int)≤9223372036854775807:=by
 obtain⟨a,cap,e,hl,_⟩:=h;exact⟨a,cap,e,hl⟩
theorem RdN.slice {w:World}{v:Value}{zs:List Int}(h:RdN w v zs):∃ a cap,v=.slice a zs.length cap∧(zs.length:Int)≤9223372036854775807:=h.rd.slice
mutual
def OwnD (w:World):Dat→List Value→List Nat→Prop
 | .int n,cs,F=>cs=[.int .i64 n]∧F=[]
 | .bytes zs,cs,F=>∃ a cap,cs=[.slice a zs.length cap]∧(zs.length≤1048576∧zs.length≤cap∧cap≤maxLen)∧(∀ j,isB (zs.getD j 0)) ∧
   (0<zs.length→∃ g,a=some ⟨g,0,none⟩∧F=[g]∧g<w.heap.size∧∀ j,j<zs.length→w.cell? ⟨g,j,none⟩=some (.int .u8 (zs.getD j 0))∧w.frozen? ⟨g,j,none⟩=false)∧(zs.length=0→F=[])
 | .agg fs,cs,F=>OwnAgg w fs cs F
 | .list k l,cs,F=>∃ a cap,cs=[.slice a l.length cap]∧(l.length≤1048576∧l.length≤cap∧cap≤maxLen) ∧
   (0<l.length→∃ g F',a=some ⟨g,0,none⟩∧F=g::F'∧g<w.heap.size∧OwnAll w k g 0 l F')∧(l.length=0→F=[])
def OwnAgg (w:World):List Dat→List Value→List Nat→Prop
 | [],cs,F=>cs=[]∧F=[]
 | d::r,cs,F=>∃ c1 c2 F1 F2,cs=c1++c2∧F=F1++F2∧OwnD w d c1 F1∧OwnAgg w r c2 F2
def OwnAll (w:World) (k:Nat) (g:Nat):Nat→List Dat→List Nat→Prop
 | _,[],F=>F=[]
 | i,d::r,F=>∃ cs F1 F2,F=F1++F2∧cs.length=k∧(∀ m u,cs[m]?=some u→w.cell? ⟨g,i*k+m,none⟩=some u∧w.frozen? ⟨g,i*k+m,none⟩=false)∧OwnD w d cs F1∧OwnAll w k g (i+1) r F2
end
mutual
theorem OwnD.rd {w:World}:∀ (d:Dat) {cs:List Value}{F:List Nat},OwnD w d cs F→RdD w d cs
 | .int n,cs,F,h=>by rw[OwnD]at h;rw[RdD];exact h.1
 | .bytes zs,cs,F,h=>by
  rw[OwnD]at h;rw[RdD];obtain⟨a,cap,rfl,hl,hb,hc,_⟩:=h;refine⟨_,rfl,⟨a,cap,rfl,by omega,hb,fun j hj=>?_⟩,⟨a,cap,rfl,hl.2⟩⟩;obtain⟨g,rfl,_,hg,hh⟩:=hc (by omega);exact⟨g,0,rfl,hg,by rw[Nat.zero_add];exact (hh j hj).1⟩
 | .agg fs,cs,F,h=>by rw[OwnD]at h;rw[RdD];exact OwnAgg.rd fs h
 | .list k l,cs,F,h=>by
  rw[OwnD]at h;rw[RdD];obtain⟨a,cap,rfl,hl,hc,_⟩:=h;refine⟨a,cap,rfl,hl.2,?_⟩
  match l,hc with
  | [],_=>rw[RdAll];trivial
  | d::r,hc =>
   obtain⟨g,F',rfl,_,hg,hh⟩:=hc (by simp);exact OwnAll.rd (d::r) hg hh
theorem OwnAgg.rd {w:World}:∀ (fs:List Dat) {cs:List Value}{F:List Nat},OwnAgg w fs cs F→RdAgg w fs cs
 | [],cs,F,h=>by rw[OwnAgg]at h;rw[RdAgg];exact h.1
 | d::r,cs,F,h=>by
  rw[OwnAgg]at h;rw[RdAgg];obtain⟨c1,c2,F1,F2,e,_,h1,h2⟩:=h;exact⟨c1,c2,e,OwnD.rd d h1,OwnAgg.rd r h2⟩
theorem OwnAll.rd {w:World}{k g:Nat}:∀ (l:List Dat) {i:Nat}{F:List Nat},g<w.heap.size→OwnAll w k g i l F→RdAll w k (some ⟨g,0,none⟩) i l
 | [],i,F,_,_=>by rw[RdAll];trivial
 | d::r,i,F,hg,h=>by
  rw[OwnAll]at h;rw[RdAll];obtain⟨cs,F1,F2,_,hk,hc,hd,hr⟩:=h;exact⟨⟨g,0,cs,rfl,hg,hk,fun m u hm=>by rw[Nat.zero_add];exact (hc m u hm).1,OwnD.rd d hd⟩,OwnAll.rd r hg hr⟩
end
mutual
theorem OwnD.agree {w w':World}(hs:w.heap.size≤w'.heap.size):∀ (d:Dat) {cs:List Value}{F:List Nat},OwnD w d cs F→(∀ b∈F,w'.heap[b]?=w.heap[b]?)→OwnD w' d cs F
 | .int n,cs,F,h,_=>by rw[OwnD]at h ⊢;exact h
 | .bytes zs,cs,F,h,ha=>by
  rw[OwnD]at h ⊢;obtain⟨a,cap,e,hl,hb,hc,h0⟩:=h;refine⟨a,cap,e,hl,hb,fun hp=>?_,h0⟩;obtain⟨g,rfl,rfl,hg,hh⟩:=hc hp;have hbl:=ha g (List.mem_singleton.2 rfl);refine⟨g,rfl,rfl,by omega,fun j hj=>?_⟩;have:=hh j hj;exact⟨by rw[show w'.cell? ⟨g,j,none⟩=w.cell? ⟨g,j,none⟩ from by unfold World.cell?;rw[show w'.heap[(⟨g,j,none⟩:Addr).block]?=w.heap[(⟨g,j,none⟩:Addr).block]? from hbl]];exact this.1,by rw[show w'.frozen? ⟨g,j,none⟩=w.frozen? ⟨g,j,none⟩ from by unfold World.frozen?;rw[show w'.heap[(⟨g,j,none⟩:Addr).block]?=w.heap[(⟨g,j,none⟩:Addr).block]? from hbl]];exact this.2⟩
 | .agg fs,cs,F,h,ha=>by rw[OwnD]at h ⊢;exact OwnAgg.agree hs fs h ha
 | .list k l,cs,F,h,ha=>by
  rw[OwnD]at h ⊢;obtain⟨a,cap,e,hl,hc,h0⟩:=h;refine⟨a,cap,e,hl,fun hp=>?_,h0⟩;obtain⟨g,F',rfl,rfl,hg,hh⟩:=hc hp;exact⟨g,F',rfl,rfl,by omega,OwnAll.agree hs l hh (ha g (List.mem_cons_self ..)) (fun b hb=>ha b (List.mem_cons_of_mem _ hb))⟩
theorem OwnAgg.agree {w w':World}(hs:w.heap.size≤w'.heap.size):∀ (fs:List Dat) {cs:List Value}{F:List Nat},OwnAgg w fs cs F→(∀ b∈F,w'.heap[b]?=w.heap[b]?)→OwnAgg w' fs cs F
 | [],cs,F,h,_=>by rw[OwnAgg]at h ⊢;exact h
 | d::r,cs,F,h,ha=>by
  rw[OwnAgg]at h ⊢;obtain⟨c1,c2,F1,F2,e,rfl,h1,h2⟩:=h;exact⟨c1,c2,F1,F2,e,rfl,OwnD.agree hs d h1 (fun b hb=>ha b (List.mem_append_left _ hb)),OwnAgg.agree hs r h2 (fun b hb=>ha b (List.mem_append_right _ hb))⟩
theorem OwnAll.agree {w w':World}(hs:w.heap.size≤w'.heap.size) {k g:Nat}:∀ (l:List Dat) {i:Nat}{F:List Nat},OwnAll w k g i l F→w'.heap[g]?=w.heap[g]?→(∀ b∈F,w'.heap[b]?=w.heap[b]?)→OwnAll w' k g i l F
 | [],i,F,h,_,_=>by rw[OwnAll]at h ⊢;exact h
 | d::r,i,F,h,hg,ha=>by
  rw[OwnAll]at h ⊢;obtain⟨cs,F1,F2,rfl,hk,hc,hd,hr⟩:=h;refine⟨cs,F1,F2,rfl,hk,fun m u hm=>?_,OwnD.agree hs d hd (fun b hb=>ha b (List.mem_append_left _ hb)),OwnAll.agree hs r hr hg (fun b hb=>ha b (List.mem_append_right _ hb))⟩;have:=hc m u hm;exact⟨by rw[show w'.cell? ⟨g,i*k+m,none⟩=w.cell? ⟨g,i*k+m,none⟩ from by unfold World.cell?;rw[show w'.heap[(⟨g,i*k+m,none⟩:Addr).block]?=w.heap[(⟨g,i*k+m,none⟩:Addr).block]? from hg]];exact this.1,by rw[show w'.frozen? ⟨g,i*k+m,none⟩=w.frozen? ⟨g,i*k+m,none⟩ from by unfold World.frozen?;rw[show w'.heap[(⟨g,i*k+m,none⟩:Addr).block]?=w.heap[(⟨g,i*k+m,none⟩:Addr).block]? from hg]];exact this.2⟩
end
structure Own (base:Nat) (w:World) (d:Dat) (cs:List Value) (F:List Nat):Prop where
 own:OwnD w d cs F
 nodup:F.Nodup
 fresh:∀ b∈F,base≤b∧b<w.heap.size
theorem Own.later {base:Nat}{w w':World}{d:Dat}{cs:List Value}{F:List Nat}(h:Own base w d cs F) (hb:Later w w'):Own base w' d cs F :=
 ⟨OwnD.agree hb.size d h.own (fun b hbF=>hb.block b (h.fresh b hbF).2),h.nodup,fun b hbF=>⟨(h.fresh b hbF).1,Nat.lt_of_lt_of_le (h.fresh b hbF).2 hb.size⟩⟩
theorem Own.mono {base base':Nat}{w:World}{d:Dat}{cs:List Value}{F:List Nat}(h:Own base w d cs F) (hb:base'≤base):Own base' w d cs F :=
 ⟨h.own,h.nodup,fun b hbF=>⟨Nat.le_trans hb (h.fresh b hbF).1,(h.fresh b hbF).2⟩⟩
inductive Pa where
 | mk (name:List Int) (tk:Int) (tn:Int)
def Pa.name:Pa→List Int|.mk x _ _=>x
def Pa.tk:Pa→Int|.mk _ x _=>x
def Pa.tn:Pa→Int|.mk _ _ x=>x
def Pa.dat:Pa→Dat
 | .mk name tk tn=>.agg [.bytes name,.int tk,.int tn]
def Pa.dats:List Pa→List Dat
 | []=>[]
 | x::r=>x.dat::Pa.dats r
theorem Pa.dats_len (l:List Pa):(Pa.dats l).length=l.length:=by
 induction l with
 | nil=>rfl
 | cons x r ih=>rw[Pa.dats,List.length_cons,List.length_cons,ih]
theorem Pa.dats_at:∀ (l:List Pa) (j:Nat) (h:j<l.length) (h':j<(Pa.dats l).length),(Pa.dats l)[j]=l[j].dat
 | x::r,0,_,_=>rfl
 | x::r,j+1,h,h'=>Pa.dats_at r j (by simpa using h) (by rw[Pa.dats_len];simpa using h)
theorem Pa.view {w:World}{x:Pa}{cs:List Value}(h:RdD w x.dat cs):∃ v0,cs=[v0,.int .i64 x.tk,.int .i64 x.tn]∧RdN w v0 x.name:=by
 obtain⟨name,tk,tn⟩:=x;rw[Pa.dat,RdD]at h;rw[RdAgg]at h;obtain⟨c0,d0,rfl,h0,h⟩:=h;obtain⟨u0,rfl,k0⟩:=RdN.iff.1 h0;rw[RdAgg]at h;obtain⟨c1,d1,rfl,h1,h⟩:=h;rw[RdD]at h1;subst h1;rw[RdAgg]at h;obtain⟨c2,d2,rfl,h2,h⟩:=h;rw[RdD]at h2;subst h2;rw[RdAgg]at h;subst h;exact⟨u0,rfl,k0⟩
theorem Pa.unview {w:World}{x:Pa}{v0:Value}(h0:RdN w v0 x.name):RdD w x.dat [v0,.int .i64 x.tk,.int .i64 x.tn]:=by
 obtain⟨name,tk,tn⟩:=x;rw[Pa.dat,RdD];rw[RdAgg];refine⟨[_],_,rfl,RdN.iff.2 ⟨_,rfl,h0⟩,?_⟩;rw[RdAgg];refine⟨[_],_,rfl,by rw[RdD];rfl,?_⟩;rw[RdAgg];refine⟨[_],_,rfl,by rw[RdD];rfl,?_⟩;rw[RdAgg]
theorem Pa.slice {w:World}{v:Value}{l:List Pa}(h:RdL w 3 v (Pa.dats l)):∃ a cap,v=.slice a l.length cap∧(l.length:Int)≤9223372036854775807:=by
 obtain⟨a,cap,e,hl⟩:=h.slice;rw[Pa.dats_len]at e hl;exact⟨a,cap,e,hl⟩
theorem Pa.elem {w:World}{a:Option Addr}{n cap:Nat}{l:List Pa}(h:RdL w 3 (.slice a n cap) (Pa.dats l)) (j:Nat) (hj:j<l.length):∃ g off v0,a=some ⟨g,off,none⟩∧g<w.heap.size∧w.cell? ⟨g,off+j*3,none⟩=some (v0)∧w.cell? ⟨g,off+j*3+1,none⟩=some (.int .i64 l[j].tk)∧w.cell? ⟨g,off+j*3+2,none⟩=some (.int .i64 l[j].tn)∧RdN w v0 l[j].name:=by
 obtain⟨_,_,e,_,h⟩:=h
 cases e
 obtain⟨g,off,cs,rfl,hg,hk,hc,hd⟩:=h j (by rw[Pa.dats_len];exact hj);rw[Pa.dats_at l j hj]at hd;obtain⟨v0,rfl,r0⟩:=Pa.view hd;exact⟨g,off,v0,rfl,hg,hc 0 _ rfl,hc 1 _ rfl,hc 2 _ rfl,r0⟩
inductive Sc where
 | mk (name:List Int) (fields:List Pa)
def Sc.name:Sc→List Int|.mk x _=>x
def Sc.fields:Sc→List Pa|.mk _ x=>x
def Sc.dat:Sc→Dat
 | .mk name fields=>.agg [.bytes name,.list 3 (Pa.dats fields)]
def Sc.dats:List Sc→List Dat
 | []=>[]
 | x::r=>x.dat::Sc.dats r
theorem Sc.dats_len (l:List Sc):(Sc.dats l).length=l.length:=by
 induction l with
 | nil=>rfl
 | cons x r ih=>rw[Sc.dats,List.length_cons,List.length_cons,ih]
theorem Sc.dats_at:∀ (l:List Sc) (j:Nat) (h:j<l.length) (h':j<(Sc.dats l).length),(Sc.dats l)[j]=l[j].dat
 | x::r,0,_,_=>rfl
 | x::r,j+1,h,h'=>Sc.dats_at r j (by simpa using h) (by rw[Sc.dats_len];simpa using h)
theorem Sc.view {w:World}{x:Sc}{cs:List Value}(h:RdD w x.dat cs):∃ v0 v1,cs=[v0,v1]∧RdN w v0 x.name∧RdL w 3 v1 (Pa.dats x.fields):=by
 obtain⟨name,fields⟩:=x;rw[Sc.dat,RdD]at h;rw[RdAgg]at h;obtain⟨c0,d0,rfl,h0,h⟩:=h;obtain⟨u0,rfl,k0⟩:=RdN.iff.1 h0;rw[RdAgg]at h;obtain⟨c1,d1,rfl,h1,h⟩:=h;obtain⟨u1,rfl,k1⟩:=RdL.iff.1 h1;rw[RdAgg]at h;subst h;exact⟨u0,u1,rfl,k0,k1⟩
theorem Sc.unview {w:World}{x:Sc}{v0 v1:Value}(h0:RdN w v0 x.name) (h1:RdL w 3 v1 (Pa.dats x.fields)):RdD w x.dat [v0,v1]:=by
 obtain⟨name,fields⟩:=x;rw[Sc.dat,RdD];rw[RdAgg];refine⟨[_],_,rfl,RdN.iff.2 ⟨_,rfl,h0⟩,?_⟩;rw[RdAgg];refine⟨[_],_,rfl,RdL.iff.2 ⟨_,rfl,h1⟩,?_⟩;rw[RdAgg]
theorem Sc.slice {w:World}{v:Value}{l:List Sc}(h:RdL w 2 v (Sc.dats l)):∃ a cap,v=.slice a l.length cap∧(l.length:Int)≤9223372036854775807:=by
 obtain⟨a,cap,e,hl⟩:=h.slice;rw[Sc.dats_len]at e hl;exact⟨a,cap,e,hl⟩
theorem Sc.elem {w:World}{a:Option Addr}{n cap:Nat}{l:List Sc}(h:RdL w 2 (.slice a n cap) (Sc.dats l)) (j:Nat) (hj:j<l.length):∃ g off v0 v1,a=some ⟨g,off,none⟩∧g<w.heap.size∧w.cell? ⟨g,off+j*2,none⟩=some (v0)∧w.cell? ⟨g,off+j*2+1,none⟩=some (v1)∧RdN w v0 l[j].name∧RdL w 3 v1 (Pa.dats l[j].fields):=by
 obtain⟨_,_,e,_,h⟩:=h
 cases e
 obtain⟨g,off,cs,rfl,hg,hk,hc,hd⟩:=h j (by rw[Sc.dats_len];exact hj);rw[Sc.dats_at l j hj]at hd;obtain⟨v0,v1,rfl,r0,r1⟩:=Sc.view hd;exact⟨g,off,v0,v1,rfl,hg,hc 0 _ rfl,hc 1 _ rfl,r0,r1⟩
inductive Ex where
 | mk (kind:Int) (n:Int) (tk:Int) (tn:Int) (name:List Int) (kids:List Ex)
def Ex.kind:Ex→Int|.mk x _ _ _ _ _=>x
def Ex.n:Ex→Int|.mk _ x _ _ _ _=>x
def Ex.tk:Ex→Int|.mk _ _ x _ _ _=>x
def Ex.tn:Ex→Int|.mk _ _ _ x _ _=>x
def Ex.name:Ex→List Int|.mk _ _ _ _ x _=>x
def Ex.kids:Ex→List Ex|.mk _ _ _ _ _ x=>x
mutual
def Ex.dat:Ex→Dat
 | .mk kind n tk tn name kids=>.agg [.int kind,.int n,.int tk,.int tn,.bytes name,.list 6 (Ex.dats kids)]
def Ex.dats:List Ex→List Dat
 | []=>[]
 | x::r=>x.dat::Ex.dats r
end
mutual
def Ex.sz:Ex→Nat
 | .mk _ _ _ _ name kids=>name.length+Ex.szs kids
def Ex.szs:List Ex→Nat
 | []=>0
 | x::r=>1+x.sz+Ex.szs r
end
theorem Ex.dats_len (l:List Ex):(Ex.dats l).length=l.length:=by
 induction l with
 | nil=>rfl
 | cons x r ih=>rw[Ex.dats,List.length_cons,List.length_cons,ih]
theorem Ex.dats_at:∀ (l:List Ex) (j:Nat) (h:j<l.length) (h':j<(Ex.dats l).length),(Ex.dats l)[j]=l[j].dat
 | x::r,0,_,_=>rfl
 | x::r,j+1,h,h'=>Ex.dats_at r j (by simpa using h) (by rw[Ex.dats_len];simpa using h)
theorem Ex.view {w:World}{x:Ex}{cs:List Value}(h:RdD w x.dat cs):∃ v0 v1,cs=[.int .i64 x.kind,.int .i64 x.n,.int .i64 x.tk,.int .i64 x.tn,v0,v1]∧RdN w v0 x.name∧RdL w 6 v1 (Ex.dats x.kids):=by
 obtain⟨kind,n,tk,tn,name,kids⟩:=x;rw[Ex.dat,RdD]at h;rw[RdAgg]at h;obtain⟨c0,d0,rfl,h0,h⟩:=h;rw[RdD]at h0;subst h0;rw[RdAgg]at h;obtain⟨c1,d1,rfl,h1,h⟩:=h;rw[RdD]at h1;subst h1;rw[RdAgg]at h;obtain⟨c2,d2,rfl,h2,h⟩:=h;rw[RdD]at h2;subst h2;rw[RdAgg]at h;obtain⟨c3,d3,rfl,h3,h⟩:=h;rw[RdD]at h3;subst h3;rw[RdAgg]at h;obtain⟨c4,d4,rfl,h4,h⟩:=h;obtain⟨u4,rfl,k4⟩:=RdN.iff.1 h4;rw[RdAgg]at h;obtain⟨c5,d5,rfl,h5,h⟩:=h;obtain⟨u5,rfl,k5⟩:=RdL.iff.1 h5;rw[RdAgg]at h;subst h;exact⟨u4,u5,rfl,k4,k5⟩
theorem Ex.unview {w:World}{x:Ex}{v0 v1:Value}(h0:RdN w v0 x.name) (h1:RdL w 6 v1 (Ex.dats x.kids)):RdD w x.dat [.int .i64 x.kind,.int .i64 x.n,.int .i64 x.tk,.int .i64 x.tn,v0,v1]:=by
 obtain⟨kind,n,tk,tn,name,kids⟩:=x;rw[Ex.dat,RdD];rw[RdAgg];refine⟨[_],_,rfl,by rw[RdD];rfl,?_⟩;rw[RdAgg];refine⟨[_],_,rfl,by rw[RdD];rfl,?_⟩;rw[RdAgg];refine⟨[_],_,rfl,by rw[RdD];rfl,?_⟩;rw[RdAgg];refine⟨[_],_,rfl,by rw[RdD];rfl,?_⟩;rw[RdAgg];refine⟨[_],_,rfl,RdN.iff.2 ⟨_,rfl,h0⟩,?_⟩;rw[RdAgg];refine⟨[_],_,rfl,RdL.iff.2 ⟨_,rfl,h1⟩,?_⟩;rw[RdAgg]
theorem Ex.slice {w:World}{v:Value}{l:List Ex}(h:RdL w 6 v (Ex.dats l)):∃ a cap,v=.slice a l.length cap∧(l.length:Int)≤9223372036854775807:=by
 obtain⟨a,cap,e,hl⟩:=h.slice;rw[Ex.dats_len]at e hl;exact⟨a,cap,e,hl⟩
theorem Ex.elem {w:World}{a:Option Addr}{n cap:Nat}{l:List Ex}(h:RdL w 6 (.slice a n cap) (Ex.dats l)) (j:Nat) (hj:j<l.length):∃ g off v0 v1,a=some ⟨g,off,none⟩∧g<w.heap.size∧w.cell? ⟨g,off+j*6,none⟩=some (.int .i64 l[j].kind)∧w.cell? ⟨g,off+j*6+1,none⟩=some (.int .i64 l[j].n)∧w.cell? ⟨g,off+j*6+2,none⟩=some (.int .i64 l[j].tk)∧w.cell? ⟨g,off+j*6+3,none⟩=some (.int .i64 l[j].tn)∧w.cell? ⟨g,off+j*6+4,none⟩=some (v0)∧w.cell? ⟨g,off+j*6+5,none⟩=some (v1)∧RdN w v0 l[j].name∧RdL w 6 v1 (Ex.dats l[j].kids):=by
 obtain⟨_,_,e,_,h⟩:=h
 cases e
 obtain⟨g,off,cs,rfl,hg,hk,hc,hd⟩:=h j (by rw[Ex.dats_len];exact hj);rw[Ex.dats_at l j hj]at hd;obtain⟨v0,v1,rfl,r0,r1⟩:=Ex.view hd;exact⟨g,off,v0,v1,rfl,hg,hc 0 _ rfl,hc 1 _ rfl,hc 2 _ rfl,hc 3 _ rfl,hc 4 _ rfl,hc 5 _ rfl,r0,r1⟩
theorem Ex.szs_ge (l:List Ex):l.length≤Ex.szs l:=by
 induction l with
 | nil=>exact Nat.le_refl _
 | cons x r ih=>rw[Ex.szs,List.length_cons];omega
theorem Ex.sz_at:∀ (l:List Ex) (j:Nat) (h:j<l.length),l[j].sz+l.length≤Ex.szs l
 | x::r,0,_=>by rw[Ex.szs];have:=Ex.szs_ge r;simp only[List.getElem_cons_zero,List.length_cons];omega
 | x::r,j+1,h=>by rw[Ex.szs];have:=Ex.sz_at r j (by simpa using h);simp only[List.getElem_cons_succ,List.length_cons];omega
inductive St where
 | mk (kind:Int) (n:Int) (tk:Int) (tn:Int) (name:List Int) (kids:List Ex) (body:List St) (els:List St)
def St.kind:St→Int|.mk x _ _ _ _ _ _ _=>x
def St.n:St→Int|.mk _ x _ _ _ _ _ _=>x
def St.tk:St→Int|.mk _ _ x _ _ _ _ _=>x
def St.tn:St→Int|.mk _ _ _ x _ _ _ _=>x
def St.name:St→List Int|.mk _ _ _ _ x _ _ _=>x
def St.kids:St→List Ex|.mk _ _ _ _ _ x _ _=>x
def St.body:St→List St|.mk _ _ _ _ _ _ x _=>x
def St.els:St→List St|.mk _ _ _ _ _ _ _ x=>x
mutual
def St.dat:St→Dat
 | .mk kind n tk tn name kids body els=>.agg [.int kind,.int n,.int tk,.int tn,.bytes name,.list 6 (Ex.dats kids),.list 8 (St.dats body),.list 8 (St.dats els)]
def St.dats:List St→List Dat
 | []=>[]
 | x::r=>x.dat::St.dats r
end
mutual
def St.sz:St→Nat
 | .mk _ _ _ _ name kids body els=>name.length+Ex.szs kids+St.szs body+St.szs els
def St.szs:List St→Nat
 | []=>0
 | x::r=>1+x.sz+St.szs r
end
theorem St.dats_len (l:List St):(St.dats l).length=l.length:=by
 induction l with
 | nil=>rfl
 | cons x r ih=>rw[St.dats,List.length_cons,List.length_cons,ih]
theorem St.dats_at:∀ (l:List St) (j:Nat) (h:j<l.length) (h':j<(St.dats l).length),(St.dats l)[j]=l[j].dat
 | x::r,0,_,_=>rfl
 | x::r,j+1,h,h'=>St.dats_at r j (by simpa using h) (by rw[St.dats_len];simpa using h)
theorem St.view {w:World}{x:St}{cs:List Value}(h:RdD w x.dat cs):∃ v0 v1 v2 v3,cs=[.int .i64 x.kind,.int .i64 x.n,.int .i64 x.tk,.int .i64 x.tn,v0,v1,v2,v3]∧RdN w v0 x.name∧RdL w 6 v1 (Ex.dats x.kids)∧RdL w 8 v2 (St.dats x.body)∧RdL w 8 v3 (St.dats x.els):=by
 obtain⟨kind,n,tk,tn,name,kids,body,els⟩:=x;rw[St.dat,RdD]at h;rw[RdAgg]at h;obtain⟨c0,d0,rfl,h0,h⟩:=h;rw[RdD]at h0;subst h0;rw[RdAgg]at h;obtain⟨c1,d1,rfl,h1,h⟩:=h;rw[RdD]at h1;subst h1;rw[RdAgg]at h;obtain⟨c2,d2,rfl,h2,h⟩:=h;rw[RdD]at h2;subst h2;rw[RdAgg]at h;obtain⟨c3,d3,rfl,h3,h⟩:=h;rw[RdD]at h3;subst h3;rw[RdAgg]at h;obtain⟨c4,d4,rfl,h4,h⟩:=h;obtain⟨u4,rfl,k4⟩:=RdN.iff.1 h4;rw[RdAgg]at h;obtain⟨c5,d5,rfl,h5,h⟩:=h;obtain⟨u5,rfl,k5⟩:=RdL.iff.1 h5;rw[RdAgg]at h;obtain⟨c6,d6,rfl,h6,h⟩:=h;obtain⟨u6,rfl,k6⟩:=RdL.iff.1 h6;rw[RdAgg]at h;obtain⟨c7,d7,rfl,h7,h⟩:=h;obtain⟨u7,rfl,k7⟩:=RdL.iff.1 h7;rw[RdAgg]at h;subst h;exact⟨u4,u5,u6,u7,rfl,k4,k5,k6,k7⟩
theorem St.unview {w:World}{x:St}{v0 v1 v2 v3:Value}(h0:RdN w v0 x.name) (h1:RdL w 6 v1 (Ex.dats x.kids)) (h2:RdL w 8 v2 (St.dats x.body)) (h3:RdL w 8 v3 (St.dats x.els)):RdD w x.dat [.int .i64 x.kind,.int .i64 x.n,.int .i64 x.tk,.int .i64 x.tn,v0,v1,v2,v3]:=by
 obtain⟨kind,n,tk,tn,name,kids,body,els⟩:=x;rw[St.dat,RdD];rw[RdAgg];refine⟨[_],_,rfl,by rw[RdD];rfl,?_⟩;rw[RdAgg];refine⟨[_],_,rfl,by rw[RdD];rfl,?_⟩;rw[RdAgg];refine⟨[_],_,rfl,by rw[RdD];rfl,?_⟩;rw[RdAgg];refine⟨[_],_,rfl,by rw[RdD];rfl,?_⟩;rw[RdAgg];refine⟨[_],_,rfl,RdN.iff.2 ⟨_,rfl,h0⟩,?_⟩;rw[RdAgg];refine⟨[_],_,rfl,RdL.iff.2 ⟨_,rfl,h1⟩,?_⟩;rw[RdAgg];refine⟨[_],_,rfl,RdL.iff.2 ⟨_,rfl,h2⟩,?_⟩;rw[RdAgg];refine⟨[_],_,rfl,RdL.iff.2 ⟨_,rfl,h3⟩,?_⟩;rw[RdAgg]
theorem St.slice {w:World}{v:Value}{l:List St}(h:RdL w 8 v (St.dats l)):∃ a cap,v=.slice a l.length cap∧(l.length:Int)≤9223372036854775807:=by
 obtain⟨a,cap,e,hl⟩:=h.slice;rw[St.dats_len]at e hl;exact⟨a,cap,e,hl⟩
theorem St.elem {w:World}{a:Option Addr}{n cap:Nat}{l:List St}(h:RdL w 8 (.slice a n cap) (St.dats l)) (j:Nat) (hj:j<l.length):∃ g off v0 v1 v2 v3,a=some ⟨g,off,none⟩∧g<w.heap.size∧w.cell? ⟨g,off+j*8,none⟩=some (.int .i64 l[j].kind)∧w.cell? ⟨g,off+j*8+1,none⟩=some (.int .i64 l[j].n)∧w.cell? ⟨g,off+j*8+2,none⟩=some (.int .i64 l[j].tk)∧w.cell? ⟨g,off+j*8+3,none⟩=some (.int .i64 l[j].tn)∧w.cell? ⟨g,off+j*8+4,none⟩=some (v0)∧w.cell? ⟨g,off+j*8+5,none⟩=some (v1)∧w.cell? ⟨g,off+j*8+6,none⟩=some (v2)∧w.cell? ⟨g,off+j*8+7,none⟩=some (v3)∧RdN w v0 l[j].name∧RdL w 6 v1 (Ex.dats l[j].kids)∧RdL w 8 v2 (St.dats l[j].body)∧RdL w 8 v3 (St.dats l[j].els):=by
 obtain⟨_,_,e,_,h⟩:=h
 cases e
 obtain⟨g,off,cs,rfl,hg,hk,hc,hd⟩:=h j (by rw[St.dats_len];exact hj);rw[St.dats_at l j hj]at hd;obtain⟨v0,v1,v2,v3,rfl,r0,r1,r2,r3⟩:=St.view hd;exact⟨g,off,v0,v1,v2,v3,rfl,hg,hc 0 _ rfl,hc 1 _ rfl,hc 2 _ rfl,hc 3 _ rfl,hc 4 _ rfl,hc 5 _ rfl,hc 6 _ rfl,hc 7 _ rfl,r0,r1,r2,r3⟩
theorem St.szs_ge (l:List St):l.length≤St.szs l:=by
 induction l with
 | nil=>exact Nat.le_refl _
 | cons x r ih=>rw[St.szs,List.length_cons];omega
theorem St.sz_at:∀ (l:List St) (j:Nat) (h:j<l.length),l[j].sz+l.length≤St.szs l
 | x::r,0,_=>by rw[St.szs];have:=St.szs_ge r;simp only[List.getElem_cons_zero,List.length_cons];omega
 | x::r,j+1,h=>by rw[St.szs];have:=St.sz_at r j (by simpa using h);simp only[List.getElem_cons_succ,List.length_cons];omega
inductive Fu where
 | mk (name:List Int) (params:List Pa) (rk:Int) (rn:Int) (body:List St)
def Fu.name:Fu→List Int|.mk x _ _ _ _=>x
def Fu.params:Fu→List Pa|.mk _ x _ _ _=>x
def Fu.rk:Fu→Int|.mk _ _ x _ _=>x
def Fu.rn:Fu→Int|.mk _ _ _ x _=>x
def Fu.body:Fu→List St|.mk _ _ _ _ x=>x
def Fu.dat:Fu→Dat
 | .mk name params rk rn body=>.agg [.bytes name,.list 3 (Pa.dats params),.int rk,.int rn,.list 8 (St.dats body)]
def Fu.dats:List Fu→List Dat
 | []=>[]
 | x::r=>x.dat::Fu.dats r
theorem Fu.dats_len (l:List Fu):(Fu.dats l).length=l.length:=by
 induction l with
 | nil=>rfl
 | cons x r ih=>rw[Fu.dats,List.length_cons,List.length_cons,ih]
theorem Fu.dats_at:∀ (l:List Fu) (j:Nat) (h:j<l.length) (h':j<(Fu.dats l).length),(Fu.dats l)[j]=l[j].dat
 | x::r,0,_,_=>rfl
 | x::r,j+1,h,h'=>Fu.dats_at r j (by simpa using h) (by rw[Fu.dats_len];simpa using h)
theorem Fu.view {w:World}{x:Fu}{cs:List Value}(h:RdD w x.dat cs):∃ v0 v1 v2,cs=[v0,v1,.int .i64 x.rk,.int .i64 x.rn,v2]∧RdN w v0 x.name∧RdL w 3 v1 (Pa.dats x.params)∧RdL w 8 v2 (St.dats x.body):=by
 obtain⟨name,params,rk,rn,body⟩:=x;rw[Fu.dat,RdD]at h;rw[RdAgg]at h;obtain⟨c0,d0,rfl,h0,h⟩:=h;obtain⟨u0,rfl,k0⟩:=RdN.iff.1 h0;rw[RdAgg]at h;obtain⟨c1,d1,rfl,h1,h⟩:=h;obtain⟨u1,rfl,k1⟩:=RdL.iff.1 h1;rw[RdAgg]at h;obtain⟨c2,d2,rfl,h2,h⟩:=h;rw[RdD]at h2;subst h2;rw[RdAgg]at h;obtain⟨c3,d3,rfl,h3,h⟩:=h;rw[RdD]at h3;subst h3;rw[RdAgg]at h;obtain⟨c4,d4,rfl,h4,h⟩:=h;obtain⟨u4,rfl,k4⟩:=RdL.iff.1 h4;rw[RdAgg]at h;subst h;exact⟨u0,u1,u4,rfl,k0,k1,k4⟩
theorem Fu.unview {w:World}{x:Fu}{v0 v1 v2:Value}(h0:RdN w v0 x.name) (h1:RdL w 3 v1 (Pa.dats x.params)) (h2:RdL w 8 v2 (St.dats x.body)):RdD w x.dat [v0,v1,.int .i64 x.rk,.int .i64 x.rn,v2]:=by
 obtain⟨name,params,rk,rn,body⟩:=x;rw[Fu.dat,RdD];rw[RdAgg];refine⟨[_],_,rfl,RdN.iff.2 ⟨_,rfl,h0⟩,?_⟩;rw[RdAgg];refine⟨[_],_,rfl,RdL.iff.2 ⟨_,rfl,h1⟩,?_⟩;rw[RdAgg];refine⟨[_],_,rfl,by rw[RdD];rfl,?_⟩;rw[RdAgg];refine⟨[_],_,rfl,by rw[RdD];rfl,?_⟩;rw[RdAgg];refine⟨[_],_,rfl,RdL.iff.2 ⟨_,rfl,h2⟩,?_⟩;rw[RdAgg]
theorem Fu.slice {w:World}{v:Value}{l:List Fu}(h:RdL w 5 v (Fu.dats l)):∃ a cap,v=.slice a l.length cap∧(l.length:Int)≤9223372036854775807:=by
 obtain⟨a,cap,e,hl⟩:=h.slice;rw[Fu.dats_len]at e hl;exact⟨a,cap,e,hl⟩
theorem Fu.elem {w:World}{a:Option Addr}{n cap:Nat}{l:List Fu}(h:RdL w 5 (.slice a n cap) (Fu.dats l)) (j:Nat) (hj:j<l.length):∃ g off v0 v1 v2,a=some ⟨g,off,none⟩∧g<w.heap.size∧w.cell? ⟨g,off+j*5,none⟩=some (v0)∧w.cell? ⟨g,off+j*5+1,none⟩=some (v1)∧w.cell? ⟨g,off+j*5+2,none⟩=some (.int .i64 l[j].rk)∧w.cell? ⟨g,off+j*5+3,none⟩=some (.int .i64 l[j].rn)∧w.cell? ⟨g,off+j*5+4,none⟩=some (v2)∧RdN w v0 l[j].name∧RdL w 3 v1 (Pa.dats l[j].params)∧RdL w 8 v2 (St.dats l[j].body):=by
 obtain⟨_,_,e,_,h⟩:=h
 cases e
 obtain⟨g,off,cs,rfl,hg,hk,hc,hd⟩:=h j (by rw[Fu.dats_len];exact hj);rw[Fu.dats_at l j hj]at hd;obtain⟨v0,v1,v2,rfl,r0,r1,r2⟩:=Fu.view hd;exact⟨g,off,v0,v1,v2,rfl,hg,hc 0 _ rfl,hc 1 _ rfl,hc 2 _ rfl,hc 3 _ rfl,hc 4 _ rfl,r0,r1,r2⟩
inductive So where
 | mk (structs:List Sc) (funcs:List Fu)
def So.structs:So→List Sc|.mk x _=>x
def So.funcs:So→List Fu|.mk _ x=>x
def So.dat:So→Dat
 | .mk structs funcs=>.agg [.list 2 (Sc.dats structs),.list 5 (Fu.dats funcs)]
theorem So.view {w:World}{x:So}{cs:List Value}(h:RdD w x.dat cs):∃ v0 v1,cs=[v0,v1]∧RdL w 2 v0 (Sc.dats x.structs)∧RdL w 5 v1 (Fu.dats x.funcs):=by
 obtain⟨structs,funcs⟩:=x;rw[So.dat,RdD]at h;rw[RdAgg]at h;obtain⟨c0,d0,rfl,h0,h⟩:=h;obtain⟨u0,rfl,k0⟩:=RdL.iff.1 h0;rw[RdAgg]at h;obtain⟨c1,d1,rfl,h1,h⟩:=h;obtain⟨u1,rfl,k1⟩:=RdL.iff.1 h1;rw[RdAgg]at h;subst h;exact⟨u0,u1,rfl,k0,k1⟩
theorem So.unview {w:World}{x:So}{v0 v1:Value}(h0:RdL w 2 v0 (Sc.dats x.structs)) (h1:RdL w 5 v1 (Fu.dats x.funcs)):RdD w x.dat [v0,v1]:=by
 obtain⟨structs,funcs⟩:=x;rw[So.dat,RdD];rw[RdAgg];refine⟨[_],_,rfl,RdL.iff.2 ⟨_,rfl,h0⟩,?_⟩;rw[RdAgg];refine⟨[_],_,rfl,RdL.iff.2 ⟨_,rfl,h1⟩,?_⟩;rw[RdAgg]
end Go.Proofs.YtgholpilmdebmaaGreatDoor
