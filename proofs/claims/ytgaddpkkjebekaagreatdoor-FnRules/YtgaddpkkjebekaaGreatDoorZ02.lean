import Derived.Test.YtgaddpkkjebekaaGreatDoorZ01
import Derived.Deep.RegionWith
import Derived.ProofKit
set_option maxHeartbeats 100000000
set_option maxRecDepth 100000
namespace Go.Proofs.YtgaddpkkjebekaaGreatDoor
open Go.RowKit
structure RdN (w:World) (v:Value) (zs:List Int):Prop where
 rd:RdB w v zs
 cap:∃ a cap,v=.slice a zs.length cap/\zs.length<=cap/\cap<=maxLen
theorem RdN.later {w w':World}{v:Value}{zs:List Int}(h:RdN w v zs) (hb:Later w w'):RdN w' v zs:=⟨h.rd.later hb,h.cap⟩
inductive Dat where
 | int (n:Int)
 | bytes (zs:List Int)
 | agg (fs:List Dat)
 | list (k:Nat) (l:List Dat)
mutual
def RdD (w:World):Dat->List Value->Prop
 | .int n,cs=>cs=[.int .i64 n]
 | .bytes zs,cs=>∃ v,cs=[v]/\RdN w v zs
 | .agg fs,cs=>bY w fs cs
 | .list k l,cs=>∃ a cap,cs=[.slice a l.length cap]/\(l.length<=cap/\cap<=maxLen)/\fU w k a 0 l
def bY (w:World):List Dat->List Value->Prop
 | [],cs=>cs=[]
 | d::r,cs=>∃ c1 c2,cs=c1++c2/\RdD w d c1/\bY w r c2
def fU (w:World) (k:Nat) (a:Option Addr):Nat->List Dat->Prop
 | _,[]=>True
 | i,d::r=>(∃ g off cs,a=some ⟨g,off,none⟩/\g<w.heap.size/\cs.length=k/\(∀ m u,cs[m]?=some u->w.cell? ⟨g,off+i*k+m,none⟩=some u)/\RdD w d cs)/\fU w k a (i+1) r
end
mutual
theorem RdD.later {w w':World}(hb:Later w w'):∀ (d:Dat) {cs:List Value},RdD w d cs->RdD w' d cs
 | .int n,cs,h=>by rw[RdD]at h ⊢;exact h
 | .bytes zs,cs,h=>by
  rw[RdD]at h ⊢;obtain⟨v,e,hr⟩:=h;exact⟨v,e,hr.later hb⟩
 | .agg fs,cs,h=>by rw[RdD]at h ⊢;exact bY.later hb fs h
 | .list k l,cs,h=>by
  rw[RdD]at h ⊢;obtain⟨a,cap,e,hl,hr⟩:=h;exact⟨a,cap,e,hl,fU.later hb l hr⟩
theorem bY.later {w w':World}(hb:Later w w'):∀ (fs:List Dat) {cs:List Value},bY w fs cs->bY w' fs cs
 | [],cs,h=>by rw[bY]at h ⊢;exact h
 | d::r,cs,h=>by
  rw[bY]at h ⊢;obtain⟨c1,c2,e,h1,h2⟩:=h;exact⟨c1,c2,e,RdD.later hb d h1,bY.later hb r h2⟩
theorem fU.later {w w':World}(hb:Later w w') {k:Nat}{a:Option Addr}:∀ (l:List Dat) {i:Nat},fU w k a i l->fU w' k a i l
 | [],i,_=>by rw[fU];trivial
 | d::r,i,h=>by
  rw[fU]at h ⊢;obtain⟨⟨g,off,cs,e,hg,hk,hc,hd⟩,hr⟩:=h;exact⟨⟨g,off,cs,e,Nat.lt_of_lt_of_le hg hb.size,hk,fun m u hm=>by rw[Below.cell hb (p:=⟨g,off+i*k+m,none⟩) hg];exact hc m u hm,RdD.later hb d hd⟩,fU.later hb r hr⟩
end
theorem fU.at {w:World}{k:Nat}{a:Option Addr}:∀ (l:List Dat) {i:Nat},fU w k a i l->∀ j (hj:j<l.length),∃ g off cs,a=some ⟨g,off,none⟩/\g<w.heap.size/\cs.length=k/\(∀ m u,cs[m]?=some u->w.cell? ⟨g,off+(i+j)*k+m,none⟩=some u)/\RdD w l[j] cs
 | d::r,i,h,0,_=>by rw[fU]at h;exact h.1
 | d::r,i,h,j+1,hj=>by
  rw[fU]at h;have:=fU.at r h.2 j (by simpa using hj);rw[show i+1+j=i+(j+1) by omega]at this;exact this
theorem fU.of {w:World}{k:Nat}{a:Option Addr}:∀ (l:List Dat) {i:Nat},(∀ j (hj:j<l.length),∃ g off cs,a=some ⟨g,off,none⟩/\g<w.heap.size/\cs.length=k/\(∀ m u,cs[m]?=some u->w.cell? ⟨g,off+(i+j)*k+m,none⟩=some u)/\RdD w l[j] cs)->fU w k a i l
 | [],i,_=>by rw[fU];trivial
 | d::r,i,h=>by
  rw[fU];refine⟨h 0 (by simp),fU.of r fun j hj=>?_⟩;have:=h (j+1) (by simpa using hj);rw[show i+(j+1)=i+1+j by omega]at this;exact this
def RdL (w:World) (k:Nat) (v:Value) (l:List Dat):Prop:=∃ a cap,v=.slice a l.length cap/\(l.length<=cap/\cap<=maxLen) /\
 ∀ j (hj:j<l.length),∃ g off cs,a=some ⟨g,off,none⟩/\g<w.heap.size/\cs.length=k/\(∀ m u,cs[m]?=some u->w.cell? ⟨g,off+j*k+m,none⟩=some u)/\RdD w l[j] cs
theorem RdL.iff {w:World}{k:Nat}{l:List Dat}{cs:List Value}:RdD w (.list k l) cs↔∃ v,cs=[v]/\RdL w k v l:=by
 rw[RdD];constructor
 ·rintro ⟨a,cap,rfl,hl,h⟩;exact⟨_,rfl,a,cap,rfl,hl,fun j hj=>by have:=fU.at l h j hj;rwa [Nat.zero_add]at this⟩
 ·rintro ⟨v,rfl,a,cap,rfl,hl,h⟩;exact⟨a,cap,rfl,hl,fU.of l fun j hj=>by rw[Nat.zero_add];exact h j hj⟩
theorem RdL.later {w w':World}(hb:Later w w') {k:Nat}{v:Value}{l:List Dat}(h:RdL w k v l):RdL w' k v l:=by
 have:=RdD.later hb (.list k l) (cs:=[v]) (RdL.iff.2 ⟨v,rfl,h⟩);obtain⟨v',e,h'⟩:=RdL.iff.1 this
 cases e
 exact h'
theorem RdL.cap {w:World}{k:Nat}{v:Value}{l:List Dat}(h:RdL w k v l):∃ a cap,v=.slice a l.length cap/\l.length<=cap/\cap<=maxLen:=by
 obtain⟨a,cap,e,hl,_⟩:=h;exact⟨a,cap,e,hl⟩
theorem RdL.slice {w:World}{k:Nat}{v:Value}{l:List Dat}(h:RdL w k v l):∃ a cap,v=.slice a l.length cap/\(l.length:Int)<=9223372036854775807:=by
 obtain⟨a,cap,e,hl,hm⟩:=h.cap;exact⟨a,cap,e,by unfold maxLen at hm;omega⟩
theorem RdN.iff {w:World}{zs:List Int}{cs:List Value}:RdD w (.bytes zs) cs↔∃ v,cs=[v]/\RdN w v zs:=by rw[RdD]
theorem RdB.slice {w:World}{v:Value}{zs:List Int}(h:RdB w v zs):∃ a cap,v=.slice a zs.length cap/\(zs.length:Int)<=9223372036854775807:=by
 obtain⟨a,cap,e,hl,_⟩:=h;exact⟨a,cap,e,hl⟩
theorem RdN.slice {w:World}{v:Value}{zs:List Int}(h:RdN w v zs):∃ a cap,v=.slice a zs.length cap/\(zs.length:Int)<=9223372036854775807:=h.rd.slice
mutual
def ai (w:World):Dat->List Value->List Nat->Prop
 | .int n,cs,F=>cs=[.int .i64 n]/\F=[]
 | .bytes zs,cs,F=>∃ a cap,cs=[.slice a zs.length cap]/\(zs.length<=1048576/\zs.length<=cap/\cap<=maxLen)/\(∀ j,isB (zs.getD j 0)) /\
   (0<zs.length->∃ g,a=some ⟨g,0,none⟩/\F=[g]/\g<w.heap.size/\∀ j,j<zs.length->w.cell? ⟨g,j,none⟩=some (.int .u8 (zs.getD j 0))/\w.frozen? ⟨g,j,none⟩=false)/\(zs.length=0->F=[])
 | .agg fs,cs,F=>aA w fs cs F
 | .list k l,cs,F=>∃ a cap,cs=[.slice a l.length cap]/\(l.length<=1048576/\l.length<=cap/\cap<=maxLen) /\
   (0<l.length->∃ g F',a=some ⟨g,0,none⟩/\F=g::F'/\g<w.heap.size/\ax w k g 0 l F')/\(l.length=0->F=[])
def aA (w:World):List Dat->List Value->List Nat->Prop
 | [],cs,F=>cs=[]/\F=[]
 | d::r,cs,F=>∃ c1 c2 F1 F2,cs=c1++c2/\F=F1++F2/\ai w d c1 F1/\aA w r c2 F2
def ax (w:World) (k:Nat) (g:Nat):Nat->List Dat->List Nat->Prop
 | _,[],F=>F=[]
 | i,d::r,F=>∃ cs F1 F2,F=F1++F2/\cs.length=k/\(∀ m u,cs[m]?=some u->w.cell? ⟨g,i*k+m,none⟩=some u/\w.frozen? ⟨g,i*k+m,none⟩=false)/\ai w d cs F1/\ax w k g (i+1) r F2
end
mutual
theorem ai.rd {w:World}:∀ (d:Dat) {cs:List Value}{F:List Nat},ai w d cs F->RdD w d cs
 | .int n,cs,F,h=>by rw[ai]at h;rw[RdD];exact h.1
 | .bytes zs,cs,F,h=>by
  rw[ai]at h;rw[RdD];obtain⟨a,cap,rfl,hl,hb,hc,_⟩:=h;refine⟨_,rfl,⟨a,cap,rfl,by omega,hb,fun j hj=>?_⟩,⟨a,cap,rfl,hl.2⟩⟩;obtain⟨g,rfl,_,hg,hh⟩:=hc (by omega);exact⟨g,0,rfl,hg,by rw[Nat.zero_add];exact (hh j hj).1⟩
 | .agg fs,cs,F,h=>by rw[ai]at h;rw[RdD];exact aA.rd fs h
 | .list k l,cs,F,h=>by
  rw[ai]at h;rw[RdD];obtain⟨a,cap,rfl,hl,hc,_⟩:=h;refine⟨a,cap,rfl,hl.2,?_⟩
  match l,hc with
  | [],_=>rw[fU];trivial
  | d::r,hc =>
   obtain⟨g,F',rfl,_,hg,hh⟩:=hc (by simp);exact ax.rd (d::r) hg hh
theorem aA.rd {w:World}:∀ (fs:List Dat) {cs:List Value}{F:List Nat},aA w fs cs F->bY w fs cs
 | [],cs,F,h=>by rw[aA]at h;rw[bY];exact h.1
 | d::r,cs,F,h=>by
  rw[aA]at h;rw[bY];obtain⟨c1,c2,F1,F2,e,_,h1,h2⟩:=h;exact⟨c1,c2,e,ai.rd d h1,aA.rd r h2⟩
theorem ax.rd {w:World}{k g:Nat}:∀ (l:List Dat) {i:Nat}{F:List Nat},g<w.heap.size->ax w k g i l F->fU w k (some ⟨g,0,none⟩) i l
 | [],i,F,_,_=>by rw[fU];trivial
 | d::r,i,F,hg,h=>by
  rw[ax]at h;rw[fU];obtain⟨cs,F1,F2,_,hk,hc,hd,hr⟩:=h;exact⟨⟨g,0,cs,rfl,hg,hk,fun m u hm=>by rw[Nat.zero_add];exact (hc m u hm).1,ai.rd d hd⟩,ax.rd r hg hr⟩
end
mutual
theorem ai.agree {w w':World}(hs:w.heap.size<=w'.heap.size):∀ (d:Dat) {cs:List Value}{F:List Nat},ai w d cs F->(∀ b∈F,w'.heap[b]?=w.heap[b]?)->ai w' d cs F
 | .int n,cs,F,h,_=>by rw[ai]at h ⊢;exact h
 | .bytes zs,cs,F,h,ha=>by
  rw[ai]at h ⊢;obtain⟨a,cap,e,hl,hb,hc,h0⟩:=h;refine⟨a,cap,e,hl,hb,fun hp=>?_,h0⟩;obtain⟨g,rfl,rfl,hg,hh⟩:=hc hp;have hbl:=ha g (List.mem_singleton.2 rfl);refine⟨g,rfl,rfl,by omega,fun j hj=>?_⟩;have:=hh j hj;exact⟨by rw[show w'.cell? ⟨g,j,none⟩=w.cell? ⟨g,j,none⟩ from by unfold World.cell?;rw[show w'.heap[(⟨g,j,none⟩:Addr).block]?=w.heap[(⟨g,j,none⟩:Addr).block]? from hbl]];exact this.1,by rw[show w'.frozen? ⟨g,j,none⟩=w.frozen? ⟨g,j,none⟩ from by unfold World.frozen?;rw[show w'.heap[(⟨g,j,none⟩:Addr).block]?=w.heap[(⟨g,j,none⟩:Addr).block]? from hbl]];exact this.2⟩
 | .agg fs,cs,F,h,ha=>by rw[ai]at h ⊢;exact aA.agree hs fs h ha
 | .list k l,cs,F,h,ha=>by
  rw[ai]at h ⊢;obtain⟨a,cap,e,hl,hc,h0⟩:=h;refine⟨a,cap,e,hl,fun hp=>?_,h0⟩;obtain⟨g,F',rfl,rfl,hg,hh⟩:=hc hp;exact⟨g,F',rfl,rfl,by omega,ax.agree hs l hh (ha g (List.mem_cons_self ..)) (fun b hb=>ha b (List.mem_cons_of_mem _ hb))⟩
theorem aA.agree {w w':World}(hs:w.heap.size<=w'.heap.size):∀ (fs:List Dat) {cs:List Value}{F:List Nat},aA w fs cs F->(∀ b∈F,w'.heap[b]?=w.heap[b]?)->aA w' fs cs F
 | [],cs,F,h,_=>by rw[aA]at h ⊢;exact h
 | d::r,cs,F,h,ha=>by
  rw[aA]at h ⊢;obtain⟨c1,c2,F1,F2,e,rfl,h1,h2⟩:=h;exact⟨c1,c2,F1,F2,e,rfl,ai.agree hs d h1 (fun b hb=>ha b (List.mem_append_left _ hb)),aA.agree hs r h2 (fun b hb=>ha b (List.mem_append_right _ hb))⟩
theorem ax.agree {w w':World}(hs:w.heap.size<=w'.heap.size) {k g:Nat}:∀ (l:List Dat) {i:Nat}{F:List Nat},ax w k g i l F->w'.heap[g]?=w.heap[g]?->(∀ b∈F,w'.heap[b]?=w.heap[b]?)->ax w' k g i l F
 | [],i,F,h,_,_=>by rw[ax]at h ⊢;exact h
 | d::r,i,F,h,hg,ha=>by
  rw[ax]at h ⊢;obtain⟨cs,F1,F2,rfl,hk,hc,hd,hr⟩:=h;refine⟨cs,F1,F2,rfl,hk,fun m u hm=>?_,ai.agree hs d hd (fun b hb=>ha b (List.mem_append_left _ hb)),ax.agree hs r hr hg (fun b hb=>ha b (List.mem_append_right _ hb))⟩;have:=hc m u hm;exact⟨by rw[show w'.cell? ⟨g,i*k+m,none⟩=w.cell? ⟨g,i*k+m,none⟩ from by unfold World.cell?;rw[show w'.heap[(⟨g,i*k+m,none⟩:Addr).block]?=w.heap[(⟨g,i*k+m,none⟩:Addr).block]? from hg]];exact this.1,by rw[show w'.frozen? ⟨g,i*k+m,none⟩=w.frozen? ⟨g,i*k+m,none⟩ from by unfold World.frozen?;rw[show w'.heap[(⟨g,i*k+m,none⟩:Addr).block]?=w.heap[(⟨g,i*k+m,none⟩:Addr).block]? from hg]];exact this.2⟩
end
structure Own (base:Nat) (w:World) (d:Dat) (cs:List Value) (F:List Nat):Prop where
 own:ai w d cs F
 nodup:F.Nodup
 fresh:∀ b∈F,base<=b/\b<w.heap.size
theorem Own.later {base:Nat}{w w':World}{d:Dat}{cs:List Value}{F:List Nat}(h:Own base w d cs F) (hb:Later w w'):Own base w' d cs F :=
 ⟨ai.agree hb.size d h.own (fun b hbF=>hb.block b (h.fresh b hbF).2),h.nodup,fun b hbF=>⟨(h.fresh b hbF).1,Nat.lt_of_lt_of_le (h.fresh b hbF).2 hb.size⟩⟩
inductive Pa where
 | mk (name:List Int) (tk:Int) (tn:Int)
def Pa.name:Pa->List Int|.mk x _ _=>x
def Pa.tk:Pa->Int|.mk _ x _=>x
def Pa.tn:Pa->Int|.mk _ _ x=>x
def Pa.dat:Pa->Dat
 | .mk name tk tn=>.agg [.bytes name,.int tk,.int tn]
def Pa.ah:List Pa->List Dat
 | []=>[]
 | x::r=>x.dat::Pa.ah r
def Pa.sz:Pa->Nat
 | .mk name _ _=>name.length
def Pa.szs:List Pa->Nat
 | []=>0
 | x::r=>1+x.sz+Pa.szs r
theorem Pa.az (l:List Pa):(Pa.ah l).length=l.length:=by
 induction l with
 | nil=>rfl
 | cons x r ih=>rw[Pa.ah,List.length_cons,List.length_cons,ih]
theorem Pa.dP:∀ (l:List Pa) (j:Nat) (h:j<l.length) (h':j<(Pa.ah l).length),(Pa.ah l)[j]=l[j].dat
 | x::r,0,_,_=>rfl
 | x::r,j+1,h,h'=>Pa.dP r j (by simpa using h) (by rw[Pa.az];simpa using h)
theorem Pa.view {w:World}{x:Pa}{cs:List Value}(h:RdD w x.dat cs):∃ v0,cs=[v0,.int .i64 x.tk,.int .i64 x.tn]/\RdN w v0 x.name:=by
 obtain⟨name,tk,tn⟩:=x;rw[Pa.dat,RdD]at h;rw[bY]at h;obtain⟨c0,d0,rfl,h0,h⟩:=h;obtain⟨u0,rfl,k0⟩:=RdN.iff.1 h0;rw[bY]at h;obtain⟨c1,d1,rfl,h1,h⟩:=h;rw[RdD]at h1;subst h1;rw[bY]at h;obtain⟨c2,d2,rfl,h2,h⟩:=h;rw[RdD]at h2;subst h2;rw[bY]at h;subst h;exact⟨u0,rfl,k0⟩
theorem Pa.slice {w:World}{v:Value}{l:List Pa}(h:RdL w 3 v (Pa.ah l)):∃ a cap,v=.slice a l.length cap/\(l.length:Int)<=9223372036854775807:=by
 obtain⟨a,cap,e,hl⟩:=h.slice;rw[Pa.az]at e hl;exact⟨a,cap,e,hl⟩
theorem Pa.elem {w:World}{a:Option Addr}{n cap:Nat}{l:List Pa}(h:RdL w 3 (.slice a n cap) (Pa.ah l)) (j:Nat) (hj:j<l.length):∃ g off v0,a=some ⟨g,off,none⟩/\g<w.heap.size/\w.cell? ⟨g,off+j*3,none⟩=some (v0)/\w.cell? ⟨g,off+j*3+1,none⟩=some (.int .i64 l[j].tk)/\w.cell? ⟨g,off+j*3+2,none⟩=some (.int .i64 l[j].tn)/\RdN w v0 l[j].name:=by
 obtain⟨_,_,e,_,h⟩:=h
 cases e
 obtain⟨g,off,cs,rfl,hg,hk,hc,hd⟩:=h j (by rw[Pa.az];exact hj);rw[Pa.dP l j hj]at hd;obtain⟨v0,rfl,r0⟩:=Pa.view hd;exact⟨g,off,v0,rfl,hg,hc 0 _ rfl,hc 1 _ rfl,hc 2 _ rfl,r0⟩
theorem Pa.jD (l:List Pa):l.length<=Pa.szs l:=by
 induction l with
 | nil=>exact Nat.le_refl _
 | cons x r ih=>rw[Pa.szs,List.length_cons];omega
theorem Pa.dW:∀ (l:List Pa) (j:Nat) (h:j<l.length),l[j].sz+l.length<=Pa.szs l
 | x::r,0,_=>by rw[Pa.szs];have:=Pa.jD r;simp only[List.getElem_cons_zero,List.length_cons];omega
 | x::r,j+1,h=>by rw[Pa.szs];have:=Pa.dW r j (by simpa using h);simp only[List.getElem_cons_succ,List.length_cons];omega
inductive Sc where
 | mk (name:List Int) (fields:List Pa)
def Sc.name:Sc->List Int|.mk x _=>x
def Sc.fields:Sc->List Pa|.mk _ x=>x
def Sc.dat:Sc->Dat
 | .mk name fields=>.agg [.bytes name,.list 3 (Pa.ah fields)]
def Sc.ah:List Sc->List Dat
 | []=>[]
 | x::r=>x.dat::Sc.ah r
def Sc.sz:Sc->Nat
 | .mk name fields=>name.length+Pa.szs fields
def Sc.szs:List Sc->Nat
 | []=>0
 | x::r=>1+x.sz+Sc.szs r
theorem Sc.az (l:List Sc):(Sc.ah l).length=l.length:=by
 induction l with
 | nil=>rfl
 | cons x r ih=>rw[Sc.ah,List.length_cons,List.length_cons,ih]
theorem Sc.dP:∀ (l:List Sc) (j:Nat) (h:j<l.length) (h':j<(Sc.ah l).length),(Sc.ah l)[j]=l[j].dat
 | x::r,0,_,_=>rfl
 | x::r,j+1,h,h'=>Sc.dP r j (by simpa using h) (by rw[Sc.az];simpa using h)
theorem Sc.view {w:World}{x:Sc}{cs:List Value}(h:RdD w x.dat cs):∃ v0 v1,cs=[v0,v1]/\RdN w v0 x.name/\RdL w 3 v1 (Pa.ah x.fields):=by
 obtain⟨name,fields⟩:=x;rw[Sc.dat,RdD]at h;rw[bY]at h;obtain⟨c0,d0,rfl,h0,h⟩:=h;obtain⟨u0,rfl,k0⟩:=RdN.iff.1 h0;rw[bY]at h;obtain⟨c1,d1,rfl,h1,h⟩:=h;obtain⟨u1,rfl,k1⟩:=RdL.iff.1 h1;rw[bY]at h;subst h;exact⟨u0,u1,rfl,k0,k1⟩
theorem Sc.slice {w:World}{v:Value}{l:List Sc}(h:RdL w 2 v (Sc.ah l)):∃ a cap,v=.slice a l.length cap/\(l.length:Int)<=9223372036854775807:=by
 obtain⟨a,cap,e,hl⟩:=h.slice;rw[Sc.az]at e hl;exact⟨a,cap,e,hl⟩
theorem Sc.elem {w:World}{a:Option Addr}{n cap:Nat}{l:List Sc}(h:RdL w 2 (.slice a n cap) (Sc.ah l)) (j:Nat) (hj:j<l.length):∃ g off v0 v1,a=some ⟨g,off,none⟩/\g<w.heap.size/\w.cell? ⟨g,off+j*2,none⟩=some (v0)/\w.cell? ⟨g,off+j*2+1,none⟩=some (v1)/\RdN w v0 l[j].name/\RdL w 3 v1 (Pa.ah l[j].fields):=by
 obtain⟨_,_,e,_,h⟩:=h
 cases e
 obtain⟨g,off,cs,rfl,hg,hk,hc,hd⟩:=h j (by rw[Sc.az];exact hj);rw[Sc.dP l j hj]at hd;obtain⟨v0,v1,rfl,r0,r1⟩:=Sc.view hd;exact⟨g,off,v0,v1,rfl,hg,hc 0 _ rfl,hc 1 _ rfl,r0,r1⟩
theorem Sc.jD (l:List Sc):l.length<=Sc.szs l:=by
 induction l with
 | nil=>exact Nat.le_refl _
 | cons x r ih=>rw[Sc.szs,List.length_cons];omega
theorem Sc.dW:∀ (l:List Sc) (j:Nat) (h:j<l.length),l[j].sz+l.length<=Sc.szs l
 | x::r,0,_=>by rw[Sc.szs];have:=Sc.jD r;simp only[List.getElem_cons_zero,List.length_cons];omega
 | x::r,j+1,h=>by rw[Sc.szs];have:=Sc.dW r j (by simpa using h);simp only[List.getElem_cons_succ,List.length_cons];omega
inductive Ex where
 | mk (kind:Int) (n:Int) (tk:Int) (tn:Int) (name:List Int) (kids:List Ex)
def Ex.kind:Ex->Int|.mk x _ _ _ _ _=>x
def Ex.n:Ex->Int|.mk _ x _ _ _ _=>x
def Ex.tk:Ex->Int|.mk _ _ x _ _ _=>x
def Ex.tn:Ex->Int|.mk _ _ _ x _ _=>x
def Ex.name:Ex->List Int|.mk _ _ _ _ x _=>x
def Ex.kids:Ex->List Ex|.mk _ _ _ _ _ x=>x
mutual
def Ex.dat:Ex->Dat
 | .mk kind n tk tn name kids=>.agg [.int kind,.int n,.int tk,.int tn,.bytes name,.list 6 (Ex.ah kids)]
def Ex.ah:List Ex->List Dat
 | []=>[]
 | x::r=>x.dat::Ex.ah r
end
mutual
def Ex.sz:Ex->Nat
 | .mk _ _ _ _ name kids=>name.length+Ex.szs kids
def Ex.szs:List Ex->Nat
 | []=>0
 | x::r=>1+x.sz+Ex.szs r
end
theorem Ex.az (l:List Ex):(Ex.ah l).length=l.length:=by
 induction l with
 | nil=>rfl
 | cons x r ih=>rw[Ex.ah,List.length_cons,List.length_cons,ih]
theorem Ex.dP:∀ (l:List Ex) (j:Nat) (h:j<l.length) (h':j<(Ex.ah l).length),(Ex.ah l)[j]=l[j].dat
 | x::r,0,_,_=>rfl
 | x::r,j+1,h,h'=>Ex.dP r j (by simpa using h) (by rw[Ex.az];simpa using h)
theorem Ex.view {w:World}{x:Ex}{cs:List Value}(h:RdD w x.dat cs):∃ v0 v1,cs=[.int .i64 x.kind,.int .i64 x.n,.int .i64 x.tk,.int .i64 x.tn,v0,v1]/\RdN w v0 x.name/\RdL w 6 v1 (Ex.ah x.kids):=by
 obtain⟨kind,n,tk,tn,name,kids⟩:=x;rw[Ex.dat,RdD]at h;rw[bY]at h;obtain⟨c0,d0,rfl,h0,h⟩:=h;rw[RdD]at h0;subst h0;rw[bY]at h;obtain⟨c1,d1,rfl,h1,h⟩:=h;rw[RdD]at h1;subst h1;rw[bY]at h;obtain⟨c2,d2,rfl,h2,h⟩:=h;rw[RdD]at h2;subst h2;rw[bY]at h;obtain⟨c3,d3,rfl,h3,h⟩:=h;rw[RdD]at h3;subst h3;rw[bY]at h;obtain⟨c4,d4,rfl,h4,h⟩:=h;obtain⟨u4,rfl,k4⟩:=RdN.iff.1 h4;rw[bY]at h;obtain⟨c5,d5,rfl,h5,h⟩:=h;obtain⟨u5,rfl,k5⟩:=RdL.iff.1 h5;rw[bY]at h;subst h;exact⟨u4,u5,rfl,k4,k5⟩
theorem Ex.slice {w:World}{v:Value}{l:List Ex}(h:RdL w 6 v (Ex.ah l)):∃ a cap,v=.slice a l.length cap/\(l.length:Int)<=9223372036854775807:=by
 obtain⟨a,cap,e,hl⟩:=h.slice;rw[Ex.az]at e hl;exact⟨a,cap,e,hl⟩
theorem Ex.elem {w:World}{a:Option Addr}{n cap:Nat}{l:List Ex}(h:RdL w 6 (.slice a n cap) (Ex.ah l)) (j:Nat) (hj:j<l.length):∃ g off v0 v1,a=some ⟨g,off,none⟩/\g<w.heap.size/\w.cell? ⟨g,off+j*6,none⟩=some (.int .i64 l[j].kind)/\w.cell? ⟨g,off+j*6+1,none⟩=some (.int .i64 l[j].n)/\w.cell? ⟨g,off+j*6+2,none⟩=some (.int .i64 l[j].tk)/\w.cell? ⟨g,off+j*6+3,none⟩=some (.int .i64 l[j].tn)/\w.cell? ⟨g,off+j*6+4,none⟩=some (v0)/\w.cell? ⟨g,off+j*6+5,none⟩=some (v1)/\RdN w v0 l[j].name/\RdL w 6 v1 (Ex.ah l[j].kids):=by
 obtain⟨_,_,e,_,h⟩:=h
 cases e
 obtain⟨g,off,cs,rfl,hg,hk,hc,hd⟩:=h j (by rw[Ex.az];exact hj);rw[Ex.dP l j hj]at hd;obtain⟨v0,v1,rfl,r0,r1⟩:=Ex.view hd;exact⟨g,off,v0,v1,rfl,hg,hc 0 _ rfl,hc 1 _ rfl,hc 2 _ rfl,hc 3 _ rfl,hc 4 _ rfl,hc 5 _ rfl,r0,r1⟩
theorem Ex.jD (l:List Ex):l.length<=Ex.szs l:=by
 induction l with
 | nil=>exact Nat.le_refl _
 | cons x r ih=>rw[Ex.szs,List.length_cons];omega
theorem Ex.dW:∀ (l:List Ex) (j:Nat) (h:j<l.length),l[j].sz+l.length<=Ex.szs l
 | x::r,0,_=>by rw[Ex.szs];have:=Ex.jD r;simp only[List.getElem_cons_zero,List.length_cons];omega
 | x::r,j+1,h=>by rw[Ex.szs];have:=Ex.dW r j (by simpa using h);simp only[List.getElem_cons_succ,List.length_cons];omega
inductive St where
 | mk (kind:Int) (n:Int) (tk:Int) (tn:Int) (name:List Int) (kids:List Ex) (body:List St) (els:List St)
def St.kind:St->Int|.mk x _ _ _ _ _ _ _=>x
def St.n:St->Int|.mk _ x _ _ _ _ _ _=>x
def St.tk:St->Int|.mk _ _ x _ _ _ _ _=>x
def St.tn:St->Int|.mk _ _ _ x _ _ _ _=>x
def St.name:St->List Int|.mk _ _ _ _ x _ _ _=>x
def St.kids:St->List Ex|.mk _ _ _ _ _ x _ _=>x
def St.body:St->List St|.mk _ _ _ _ _ _ x _=>x
def St.els:St->List St|.mk _ _ _ _ _ _ _ x=>x
mutual
def St.dat:St->Dat
 | .mk kind n tk tn name kids body els=>.agg [.int kind,.int n,.int tk,.int tn,.bytes name,.list 6 (Ex.ah kids),.list 8 (St.ah body),.list 8 (St.ah els)]
def St.ah:List St->List Dat
 | []=>[]
 | x::r=>x.dat::St.ah r
end
mutual
def St.sz:St->Nat
 | .mk _ _ _ _ name kids body els=>name.length+Ex.szs kids+St.szs body+St.szs els
def St.szs:List St->Nat
 | []=>0
 | x::r=>1+x.sz+St.szs r
end
theorem St.az (l:List St):(St.ah l).length=l.length:=by
 induction l with
 | nil=>rfl
 | cons x r ih=>rw[St.ah,List.length_cons,List.length_cons,ih]
theorem St.dP:∀ (l:List St) (j:Nat) (h:j<l.length) (h':j<(St.ah l).length),(St.ah l)[j]=l[j].dat
 | x::r,0,_,_=>rfl
 | x::r,j+1,h,h'=>St.dP r j (by simpa using h) (by rw[St.az];simpa using h)
theorem St.view {w:World}{x:St}{cs:List Value}(h:RdD w x.dat cs):∃ v0 v1 v2 v3,cs=[.int .i64 x.kind,.int .i64 x.n,.int .i64 x.tk,.int .i64 x.tn,v0,v1,v2,v3]/\RdN w v0 x.name/\RdL w 6 v1 (Ex.ah x.kids)/\RdL w 8 v2 (St.ah x.body)/\RdL w 8 v3 (St.ah x.els):=by
 obtain⟨kind,n,tk,tn,name,kids,body,els⟩:=x;rw[St.dat,RdD]at h;rw[bY]at h;obtain⟨c0,d0,rfl,h0,h⟩:=h;rw[RdD]at h0;subst h0;rw[bY]at h;obtain⟨c1,d1,rfl,h1,h⟩:=h;rw[RdD]at h1;subst h1;rw[bY]at h;obtain⟨c2,d2,rfl,h2,h⟩:=h;rw[RdD]at h2;subst h2;rw[bY]at h;obtain⟨c3,d3,rfl,h3,h⟩:=h;rw[RdD]at h3;subst h3;rw[bY]at h;obtain⟨c4,d4,rfl,h4,h⟩:=h;obtain⟨u4,rfl,k4⟩:=RdN.iff.1 h4;rw[bY]at h;obtain⟨c5,d5,rfl,h5,h⟩:=h;obtain⟨u5,rfl,k5⟩:=RdL.iff.1 h5;rw[bY]at h;obtain⟨c6,d6,rfl,h6,h⟩:=h;obtain⟨u6,rfl,k6⟩:=RdL.iff.1 h6;rw[bY]at h;obtain⟨c7,d7,rfl,h7,h⟩:=h;obtain⟨u7,rfl,k7⟩:=RdL.iff.1 h7;rw[bY]at h;subst h;exact⟨u4,u5,u6,u7,rfl,k4,k5,k6,k7⟩
theorem St.slice {w:World}{v:Value}{l:List St}(h:RdL w 8 v (St.ah l)):∃ a cap,v=.slice a l.length cap/\(l.length:Int)<=9223372036854775807:=by
 obtain⟨a,cap,e,hl⟩:=h.slice;rw[St.az]at e hl;exact⟨a,cap,e,hl⟩
theorem St.elem {w:World}{a:Option Addr}{n cap:Nat}{l:List St}(h:RdL w 8 (.slice a n cap) (St.ah l)) (j:Nat) (hj:j<l.length):∃ g off v0 v1 v2 v3,a=some ⟨g,off,none⟩/\g<w.heap.size/\w.cell? ⟨g,off+j*8,none⟩=some (.int .i64 l[j].kind)/\w.cell? ⟨g,off+j*8+1,none⟩=some (.int .i64 l[j].n)/\w.cell? ⟨g,off+j*8+2,none⟩=some (.int .i64 l[j].tk)/\w.cell? ⟨g,off+j*8+3,none⟩=some (.int .i64 l[j].tn)/\w.cell? ⟨g,off+j*8+4,none⟩=some (v0)/\w.cell? ⟨g,off+j*8+5,none⟩=some (v1)/\w.cell? ⟨g,off+j*8+6,none⟩=some (v2)/\w.cell? ⟨g,off+j*8+7,none⟩=some (v3)/\RdN w v0 l[j].name/\RdL w 6 v1 (Ex.ah l[j].kids)/\RdL w 8 v2 (St.ah l[j].body)/\RdL w 8 v3 (St.ah l[j].els):=by
 obtain⟨_,_,e,_,h⟩:=h
 cases e
 obtain⟨g,off,cs,rfl,hg,hk,hc,hd⟩:=h j (by rw[St.az];exact hj);rw[St.dP l j hj]at hd;obtain⟨v0,v1,v2,v3,rfl,r0,r1,r2,r3⟩:=St.view hd;exact⟨g,off,v0,v1,v2,v3,rfl,hg,hc 0 _ rfl,hc 1 _ rfl,hc 2 _ rfl,hc 3 _ rfl,hc 4 _ rfl,hc 5 _ rfl,hc 6 _ rfl,hc 7 _ rfl,r0,r1,r2,r3⟩
theorem St.jD (l:List St):l.length<=St.szs l:=by
 induction l with
 | nil=>exact Nat.le_refl _
 | cons x r ih=>rw[St.szs,List.length_cons];omega
theorem St.dW:∀ (l:List St) (j:Nat) (h:j<l.length),l[j].sz+l.length<=St.szs l
 | x::r,0,_=>by rw[St.szs];have:=St.jD r;simp only[List.getElem_cons_zero,List.length_cons];omega
 | x::r,j+1,h=>by rw[St.szs];have:=St.dW r j (by simpa using h);simp only[List.getElem_cons_succ,List.length_cons];omega
inductive Fu where
 | mk (name:List Int) (params:List Pa) (rk:Int) (rn:Int) (body:List St)
def Fu.name:Fu->List Int|.mk x _ _ _ _=>x
def Fu.params:Fu->List Pa|.mk _ x _ _ _=>x
def Fu.rk:Fu->Int|.mk _ _ x _ _=>x
def Fu.rn:Fu->Int|.mk _ _ _ x _=>x
def Fu.body:Fu->List St|.mk _ _ _ _ x=>x
def Fu.dat:Fu->Dat
 | .mk name params rk rn body=>.agg [.bytes name,.list 3 (Pa.ah params),.int rk,.int rn,.list 8 (St.ah body)]
def Fu.ah:List Fu->List Dat
 | []=>[]
 | x::r=>x.dat::Fu.ah r
def Fu.sz:Fu->Nat
 | .mk name params _ _ body=>name.length+Pa.szs params+St.szs body
def Fu.szs:List Fu->Nat
 | []=>0
 | x::r=>1+x.sz+Fu.szs r
theorem Fu.az (l:List Fu):(Fu.ah l).length=l.length:=by
 induction l with
 | nil=>rfl
 | cons x r ih=>rw[Fu.ah,List.length_cons,List.length_cons,ih]
theorem Fu.dP:∀ (l:List Fu) (j:Nat) (h:j<l.length) (h':j<(Fu.ah l).length),(Fu.ah l)[j]=l[j].dat
 | x::r,0,_,_=>rfl
 | x::r,j+1,h,h'=>Fu.dP r j (by simpa using h) (by rw[Fu.az];simpa using h)
theorem Fu.view {w:World}{x:Fu}{cs:List Value}(h:RdD w x.dat cs):∃ v0 v1 v2,cs=[v0,v1,.int .i64 x.rk,.int .i64 x.rn,v2]/\RdN w v0 x.name/\RdL w 3 v1 (Pa.ah x.params)/\RdL w 8 v2 (St.ah x.body):=by
 obtain⟨name,params,rk,rn,body⟩:=x;rw[Fu.dat,RdD]at h;rw[bY]at h;obtain⟨c0,d0,rfl,h0,h⟩:=h;obtain⟨u0,rfl,k0⟩:=RdN.iff.1 h0;rw[bY]at h;obtain⟨c1,d1,rfl,h1,h⟩:=h;obtain⟨u1,rfl,k1⟩:=RdL.iff.1 h1;rw[bY]at h;obtain⟨c2,d2,rfl,h2,h⟩:=h;rw[RdD]at h2;subst h2;rw[bY]at h;obtain⟨c3,d3,rfl,h3,h⟩:=h;rw[RdD]at h3;subst h3;rw[bY]at h;obtain⟨c4,d4,rfl,h4,h⟩:=h;obtain⟨u4,rfl,k4⟩:=RdL.iff.1 h4;rw[bY]at h;subst h;exact⟨u0,u1,u4,rfl,k0,k1,k4⟩
theorem Fu.slice {w:World}{v:Value}{l:List Fu}(h:RdL w 5 v (Fu.ah l)):∃ a cap,v=.slice a l.length cap/\(l.length:Int)<=9223372036854775807:=by
 obtain⟨a,cap,e,hl⟩:=h.slice;rw[Fu.az]at e hl;exact⟨a,cap,e,hl⟩
theorem Fu.elem {w:World}{a:Option Addr}{n cap:Nat}{l:List Fu}(h:RdL w 5 (.slice a n cap) (Fu.ah l)) (j:Nat) (hj:j<l.length):∃ g off v0 v1 v2,a=some ⟨g,off,none⟩/\g<w.heap.size/\w.cell? ⟨g,off+j*5,none⟩=some (v0)/\w.cell? ⟨g,off+j*5+1,none⟩=some (v1)/\w.cell? ⟨g,off+j*5+2,none⟩=some (.int .i64 l[j].rk)/\w.cell? ⟨g,off+j*5+3,none⟩=some (.int .i64 l[j].rn)/\w.cell? ⟨g,off+j*5+4,none⟩=some (v2)/\RdN w v0 l[j].name/\RdL w 3 v1 (Pa.ah l[j].params)/\RdL w 8 v2 (St.ah l[j].body):=by
 obtain⟨_,_,e,_,h⟩:=h
 cases e
 obtain⟨g,off,cs,rfl,hg,hk,hc,hd⟩:=h j (by rw[Fu.az];exact hj);rw[Fu.dP l j hj]at hd;obtain⟨v0,v1,v2,rfl,r0,r1,r2⟩:=Fu.view hd;exact⟨g,off,v0,v1,v2,rfl,hg,hc 0 _ rfl,hc 1 _ rfl,hc 2 _ rfl,hc 3 _ rfl,hc 4 _ rfl,r0,r1,r2⟩
theorem Fu.jD (l:List Fu):l.length<=Fu.szs l:=by
 induction l with
 | nil=>exact Nat.le_refl _
 | cons x r ih=>rw[Fu.szs,List.length_cons];omega
theorem Fu.dW:∀ (l:List Fu) (j:Nat) (h:j<l.length),l[j].sz+l.length<=Fu.szs l
 | x::r,0,_=>by rw[Fu.szs];have:=Fu.jD r;simp only[List.getElem_cons_zero,List.length_cons];omega
 | x::r,j+1,h=>by rw[Fu.szs];have:=Fu.dW r j (by simpa using h);simp only[List.getElem_cons_succ,List.length_cons];omega
inductive So where
 | mk (structs:List Sc) (funcs:List Fu)
def So.structs:So->List Sc|.mk x _=>x
def So.funcs:So->List Fu|.mk _ x=>x
def So.dat:So->Dat
 | .mk structs funcs=>.agg [.list 2 (Sc.ah structs),.list 5 (Fu.ah funcs)]
def So.sz:So->Nat
 | .mk structs funcs=>Sc.szs structs+Fu.szs funcs
theorem So.view {w:World}{x:So}{cs:List Value}(h:RdD w x.dat cs):∃ v0 v1,cs=[v0,v1]/\RdL w 2 v0 (Sc.ah x.structs)/\RdL w 5 v1 (Fu.ah x.funcs):=by
 obtain⟨structs,funcs⟩:=x;rw[So.dat,RdD]at h;rw[bY]at h;obtain⟨c0,d0,rfl,h0,h⟩:=h;obtain⟨u0,rfl,k0⟩:=RdL.iff.1 h0;rw[bY]at h;obtain⟨c1,d1,rfl,h1,h⟩:=h;obtain⟨u1,rfl,k1⟩:=RdL.iff.1 h1;rw[bY]at h;subst h;exact⟨u0,u1,rfl,k0,k1⟩
end Go.Proofs.YtgaddpkkjebekaaGreatDoor
namespace Go.Proofs.YtgaddpkkjebekaaGreatDoor
open Go.RowKit
end Go.Proofs.YtgaddpkkjebekaaGreatDoor
namespace Go.Proofs.YtgaddpkkjebekaaGreatDoor
open Go.RowKit
theorem dG {W w1:World}(hb:Later W w1):(∀ b o,b<W.heap.size->w1.cell? ⟨b,o,none⟩=W.cell? ⟨b,o,none⟩)/\(∀ b o,b<W.heap.size->w1.frozen? ⟨b,o,none⟩=W.frozen? ⟨b,o,none⟩) :=
 ⟨fun b o h=>Below.cell hb (p:=⟨b,o,none⟩) h,fun b o h=>Below.frozen hb (p:=⟨b,o,none⟩) h⟩
theorem Later.setAt {w w':World}(h:Later w w') {b:Nat}(hb:w.heap.size<=b) (o:Nat) (v:Value):Later w (w'.setCell ⟨b,o,none⟩ v):=Below.setCell h hb v
theorem Later.alloc {w w':World}(h:Later w w') (o:Obj):Later w (w'.alloc o):=h.trans (ae _ _)
structure Kept (lo:Nat) (w w':World):Prop where
 size:w.heap.size<=w'.heap.size
 block:∀ b,lo<=b->b<w.heap.size->w'.heap[b]?=w.heap[b]?
theorem Kept.refl (lo:Nat) (w:World):Kept lo w w:=⟨Nat.le_refl _,fun _ _ _=>rfl⟩
theorem Kept.set {lo:Nat}{w w':World}(h:Kept lo w w') {a:Addr}(ha:a.block<lo) (v:Value):Kept lo w (w'.setCell a v) :=
 ⟨by rw[World.size_setCell];exact h.size,fun b hb hw=>by rw[Below.heap_setCell _ _ _ _ (by omega)];exact h.block b hb hw⟩
theorem Kept.setAt {lo:Nat}{w w':World}(h:Kept lo w w') {b:Nat}(hb:b<lo) (o:Nat) (v:Value):Kept lo w (w'.setCell ⟨b,o,none⟩ v):=h.set hb v
def Fr (lo hi:Nat) (F:List Nat):Prop:=F.Nodup/\∀ b∈F,lo<=b/\b<hi
theorem Fr.nil (lo hi:Nat):Fr lo hi []:=⟨List.nodup_nil,fun b hb=>by cases hb⟩
theorem Fr.one {lo hi g:Nat}(h:lo<=g) (h':g<hi):Fr lo hi [g]:=⟨by simp,fun b hb=>by rw[List.mem_singleton.1 hb];exact⟨h,h'⟩⟩
theorem Fr.mono {lo hi lo' hi':Nat}{F:List Nat}(h:Fr lo hi F) (h1:lo'<=lo) (h2:hi<=hi'):Fr lo' hi' F:=⟨h.1,fun b hb=>by have:=h.2 b hb;omega⟩
theorem Fr.app {lo mid hi:Nat}{F G:List Nat}(h:Fr lo mid F) (k:Fr mid hi G) (h1:lo<=mid) (h2:mid<=hi):Fr lo hi (F++G):=by
 refine⟨List.nodup_append.2 ⟨h.1,k.1,fun a ha b hb e=>?_⟩,fun b hb=>?_⟩
 ·have x:=h.2 a ha;have y:=k.2 b hb;omega
 ·rcases List.mem_append.1 hb with hb|hb
  ·have:=h.2 b hb;omega
  ·have:=k.2 b hb;omega
theorem Own.mk' {base:Nat}{w:World}{d:Dat}{cs:List Value}{F:List Nat}(h:ai w d cs F) (f:Fr base w.heap.size F):Own base w d cs F:=⟨h,f.1,f.2⟩
theorem Own.fr {base:Nat}{w:World}{d:Dat}{cs:List Value}{F:List Nat}(h:Own base w d cs F):Fr base w.heap.size F:=⟨h.nodup,h.fresh⟩
theorem ax.agree' {w w':World}(hs:w.heap.size<=w'.heap.size) {k g:Nat}:∀ (l:List Dat) {i:Nat}{F:List Nat},ax w k g i l F->(∀ o,i*k<=o->o<(i+l.length)*k->w'.cell? ⟨g,o,none⟩=w.cell? ⟨g,o,none⟩/\w'.frozen? ⟨g,o,none⟩=w.frozen? ⟨g,o,none⟩)->(∀ b∈F,w'.heap[b]?=w.heap[b]?)->ax w' k g i l F
 | [],i,F,h,_,_=>by rw[ax]at h ⊢;exact h
 | d::r,i,F,h,hg,ha=>by
  rw[ax]at h ⊢;obtain⟨cs,F1,F2,rfl,hk,hc,hd,hr⟩:=h;rw[List.length_cons]at hg;have e1:(i+1)*k=i*k+k:=Nat.succ_mul i k;have e2:(i+(r.length+1))*k=(i+1+r.length)*k:=by rw[show i+(r.length+1)=i+1+r.length by omega]
  have e3:(i+1)*k<=(i+1+r.length)*k:=Nat.mul_le_mul_right _ (by omega);refine⟨cs,F1,F2,rfl,hk,fun m u hm=>?_,ai.agree hs d hd (fun b hb=>ha b (List.mem_append_left _ hb)),ax.agree' hs r hr (fun o h1 h2=>hg o (by omega) (by omega)) (fun b hb=>ha b (List.mem_append_right _ hb))⟩
  have hml:m<k:=by
   rw[<-hk];rcases Nat.lt_or_ge m cs.length with h|h
   ·exact h
   ·rw[List.getElem?_eq_none h]at hm;cases hm
  have:=hc m u hm;obtain⟨x,y⟩:=hg (i*k+m) (by omega) (by omega);exact⟨by rw[x];exact this.1,by rw[y];exact this.2⟩
theorem Pa.own {w:World}{x:Pa}{u0:Value}{F0:List Nat}(h0:ai w (.bytes x.name) [u0] F0):ai w x.dat [u0,.int .i64 x.tk,.int .i64 x.tn] (F0):=by
 obtain⟨name,tk,tn⟩:=x;rw[Pa.dat,ai];rw[aA];refine⟨[_],_,F0,[],rfl,(List.append_nil _).symm,h0,?_⟩;rw[aA];refine⟨[_],_,[],_,rfl,(List.nil_append _).symm,by rw[ai];exact⟨rfl,rfl⟩,?_⟩;rw[aA];refine⟨[_],_,[],_,rfl,(List.nil_append _).symm,by rw[ai];exact⟨rfl,rfl⟩,?_⟩;rw[aA];exact⟨rfl,rfl⟩
theorem Tryz.IR:(Tryz.prog.info? 75).map (fun i=>(i.zero,i.size,i.bytes))=some (some (.agg #[.slice none 0 0,.int .i64 0,.int .i64 0]),3,40):=by kernel_rfl
theorem Sc.own {w:World}{x:Sc}{u0 u1:Value}{F0 F1:List Nat}(h0:ai w (.bytes x.name) [u0] F0) (h1:ai w (.list 3 (Pa.ah x.fields)) [u1] F1):ai w x.dat [u0,u1] (F0++(F1)):=by
 obtain⟨name,fields⟩:=x;rw[Sc.dat,ai];rw[aA];refine⟨[_],_,F0,_,rfl,rfl,h0,?_⟩;rw[aA];refine⟨[_],_,F1,[],rfl,(List.append_nil _).symm,h1,?_⟩;rw[aA];exact⟨rfl,rfl⟩
theorem Tryz.PE:(Tryz.prog.info? 82).map (fun i=>(i.zero,i.size,i.bytes))=some (some (.agg #[.slice none 0 0,.slice none 0 0]),2,48):=by kernel_rfl
theorem Ex.own {w:World}{x:Ex}{u0 u1:Value}{F0 F1:List Nat}(h0:ai w (.bytes x.name) [u0] F0) (h1:ai w (.list 6 (Ex.ah x.kids)) [u1] F1):ai w x.dat [.int .i64 x.kind,.int .i64 x.n,.int .i64 x.tk,.int .i64 x.tn,u0,u1] (F0++(F1)):=by
 obtain⟨kind,n,tk,tn,name,kids⟩:=x;rw[Ex.dat,ai];rw[aA];refine⟨[_],_,[],_,rfl,(List.nil_append _).symm,by rw[ai];exact⟨rfl,rfl⟩,?_⟩;rw[aA];refine⟨[_],_,[],_,rfl,(List.nil_append _).symm,by rw[ai];exact⟨rfl,rfl⟩,?_⟩;rw[aA];refine⟨[_],_,[],_,rfl,(List.nil_append _).symm,by rw[ai];exact⟨rfl,rfl⟩,?_⟩;rw[aA];refine⟨[_],_,[],_,rfl,(List.nil_append _).symm,by rw[ai];exact⟨rfl,rfl⟩,?_⟩;rw[aA];refine⟨[_],_,F0,_,rfl,rfl,h0,?_⟩;rw[aA];refine⟨[_],_,F1,[],rfl,(List.append_nil _).symm,h1,?_⟩;rw[aA];exact⟨rfl,rfl⟩
theorem Tryz.J7:(Tryz.prog.info? 148).map (fun i=>(i.zero,i.size,i.bytes))=some (some (.agg #[.int .i64 0,.int .i64 0,.int .i64 0,.int .i64 0,.slice none 0 0,.slice none 0 0]),6,80):=by kernel_rfl
theorem St.own {w:World}{x:St}{u0 u1 u2 u3:Value}{F0 F1 F2 F3:List Nat}(h0:ai w (.bytes x.name) [u0] F0) (h1:ai w (.list 6 (Ex.ah x.kids)) [u1] F1) (h2:ai w (.list 8 (St.ah x.body)) [u2] F2) (h3:ai w (.list 8 (St.ah x.els)) [u3] F3):ai w x.dat [.int .i64 x.kind,.int .i64 x.n,.int .i64 x.tk,.int .i64 x.tn,u0,u1,u2,u3] (F0++(F1++(F2++(F3)))):=by
 obtain⟨kind,n,tk,tn,name,kids,body,els⟩:=x;rw[St.dat,ai];rw[aA];refine⟨[_],_,[],_,rfl,(List.nil_append _).symm,by rw[ai];exact⟨rfl,rfl⟩,?_⟩;rw[aA];refine⟨[_],_,[],_,rfl,(List.nil_append _).symm,by rw[ai];exact⟨rfl,rfl⟩,?_⟩;rw[aA];refine⟨[_],_,[],_,rfl,(List.nil_append _).symm,by rw[ai];exact⟨rfl,rfl⟩,?_⟩;rw[aA];refine⟨[_],_,[],_,rfl,(List.nil_append _).symm,by rw[ai];exact⟨rfl,rfl⟩,?_⟩;rw[aA];refine⟨[_],_,F0,_,rfl,rfl,h0,?_⟩;rw[aA];refine⟨[_],_,F1,_,rfl,rfl,h1,?_⟩;rw[aA];refine⟨[_],_,F2,_,rfl,rfl,h2,?_⟩;rw[aA];refine⟨[_],_,F3,[],rfl,(List.append_nil _).symm,h3,?_⟩;rw[aA];exact⟨rfl,rfl⟩
theorem Tryz.J8:(Tryz.prog.info? 110).map (fun i=>(i.zero,i.size,i.bytes))=some (some (.agg #[.int .i64 0,.int .i64 0,.int .i64 0,.int .i64 0,.slice none 0 0,.slice none 0 0,.slice none 0 0,.slice none 0 0]),8,128):=by kernel_rfl
theorem Fu.own {w:World}{x:Fu}{u0 u1 u2:Value}{F0 F1 F2:List Nat}(h0:ai w (.bytes x.name) [u0] F0) (h1:ai w (.list 3 (Pa.ah x.params)) [u1] F1) (h2:ai w (.list 8 (St.ah x.body)) [u2] F2):ai w x.dat [u0,u1,.int .i64 x.rk,.int .i64 x.rn,u2] (F0++(F1++(F2))):=by
 obtain⟨name,params,rk,rn,body⟩:=x;rw[Fu.dat,ai];rw[aA];refine⟨[_],_,F0,_,rfl,rfl,h0,?_⟩;rw[aA];refine⟨[_],_,F1,_,rfl,rfl,h1,?_⟩;rw[aA];refine⟨[_],_,[],_,rfl,(List.nil_append _).symm,by rw[ai];exact⟨rfl,rfl⟩,?_⟩;rw[aA];refine⟨[_],_,[],_,rfl,(List.nil_append _).symm,by rw[ai];exact⟨rfl,rfl⟩,?_⟩;rw[aA];refine⟨[_],_,F2,[],rfl,(List.append_nil _).symm,h2,?_⟩;rw[aA];exact⟨rfl,rfl⟩
theorem Tryz.PG:(Tryz.prog.info? 55).map (fun i=>(i.zero,i.size,i.bytes))=some (some (.agg #[.slice none 0 0,.slice none 0 0,.int .i64 0,.int .i64 0,.slice none 0 0]),5,88):=by kernel_rfl
theorem So.own {w:World}{x:So}{u0 u1:Value}{F0 F1:List Nat}(h0:ai w (.list 2 (Sc.ah x.structs)) [u0] F0) (h1:ai w (.list 5 (Fu.ah x.funcs)) [u1] F1):ai w x.dat [u0,u1] (F0++(F1)):=by
 obtain⟨structs,funcs⟩:=x;rw[So.dat,ai];rw[aA];refine⟨[_],_,F0,_,rfl,rfl,h0,?_⟩;rw[aA];refine⟨[_],_,F1,[],rfl,(List.append_nil _).symm,h1,?_⟩;rw[aA];exact⟨rfl,rfl⟩
end Go.Proofs.YtgaddpkkjebekaaGreatDoor
namespace Go.Proofs.YtgaddpkkjebekaaGreatDoor
open Go.RowKit
end Go.Proofs.YtgaddpkkjebekaaGreatDoor
