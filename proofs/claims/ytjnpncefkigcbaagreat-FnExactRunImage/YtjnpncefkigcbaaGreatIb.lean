import Derived.Test.YtjnpncefkigcbaaGreatHb
set_option maxHeartbeats 100000000
set_option maxRecDepth 100000
namespace Go.Proofs.YtjnpncefkigcbaaGreat
open Go.RowKit
def Like (u v:Value):Prop:=u=v∨(∃ k z z',u=.int k z∧v=.int k z')∨∃ z z',u=.bool z∧v=.bool z'
theorem Like.refl (u:Value):Like u u:=Or.inl rfl
theorem Like.trans {a b c:Value}(h:Like a b) (k:Like b c):Like a c:=by
 rcases h with rfl|⟨q,z,z',rfl,rfl⟩|⟨z,z',rfl,rfl⟩
 ·exact k
 ·rcases k with rfl|⟨q',y,y',e,rfl⟩|⟨y,y',e,_⟩
  ·exact Or.inr (Or.inl ⟨q,z,z',rfl,rfl⟩)
  ·cases e
   exact Or.inr (Or.inl ⟨q,z,y',rfl,rfl⟩)
  ·cases e
 ·rcases k with rfl|⟨q',y,y',e,_⟩|⟨y,y',e,rfl⟩
  ·exact Or.inr (Or.inr ⟨z,z',rfl,rfl⟩)
  ·cases e
  ·cases e
   exact Or.inr (Or.inr ⟨z,y',rfl,rfl⟩)
theorem Like.slice {a:Option Addr}{n c:Nat}{v:Value}(h:Like (.slice a n c) v):v=.slice a n c:=by
 rcases h with h|⟨k,z,z',e,_⟩|⟨z,z',e,_⟩
 ·exact h.symm
 ·cases e
 ·cases e
theorem Like.int {k:IntKind}{z:Int}{v:Value}(h:Like (.int k z) v):∃ z',v=.int k z':=by
 rcases h with h|⟨q,y,y',e,h⟩|⟨y,y',e,_⟩
 ·exact⟨z,h.symm⟩
 ·cases e
  exact⟨y',h⟩
 ·cases e
theorem Like.bool {z:Bool}{v:Value}(h:Like (.bool z) v):∃ z',v=.bool z':=by
 rcases h with h|⟨q,y,y',e,h⟩|⟨y,y',e,h⟩
 ·exact⟨z,h.symm⟩
 ·cases e
 ·exact⟨y',h⟩
structure Inks (P:Nat→Prop) (w w':World):Prop where
 os:w'.os=w.os
 tape:w'.tape=w.tape
 output:w'.output=w.output
 size:w.heap.size≤w'.heap.size
 block:∀ b,b<w.heap.size→¬ P b→w'.heap[b]?=w.heap[b]?
 frozen:∀ a:Addr,a.block<w.heap.size→w'.frozen? a=w.frozen? a
 cell:∀ (a:Addr) u,a.block<w.heap.size→w.cell? a=some u→∃ v,w'.cell? a=some v∧Like u v
theorem Inks.refl (P:Nat→Prop) (w:World):Inks P w w:=⟨rfl,rfl,rfl,Nat.le_refl _,fun _ _ _=>rfl,fun _ _=>rfl,fun _ u _ h=>⟨u,h,Like.refl u⟩⟩
theorem Inks.trans {P:Nat→Prop}{a b c:World}(h:Inks P a b) (k:Inks P b c):Inks P a c :=
 ⟨k.os.trans h.os,k.tape.trans h.tape,k.output.trans h.output,Nat.le_trans h.size k.size,fun x hx hn=>by rw[k.block x (Nat.lt_of_lt_of_le hx h.size) hn,h.block x hx hn],fun x hx=>by rw[k.frozen x (Nat.lt_of_lt_of_le hx h.size),h.frozen x hx],fun x u hx hu=>by
  obtain⟨v,hv,l1⟩:=h.cell x u hx hu;obtain⟨v',hv',l2⟩:=k.cell x v (Nat.lt_of_lt_of_le hx h.size) hv
  exact⟨v',hv',l1.trans l2⟩⟩
theorem Inks.slice {P:Nat→Prop}{w w':World}(h:Inks P w w') {g o:Nat}(hg:g<w.heap.size) {a:Option Addr}{n c:Nat}(hc:w.cell? ⟨g,o,none⟩=some (.slice a n c)):w'.cell? ⟨g,o,none⟩=some (.slice a n c):=by
 obtain⟨v,hv,l⟩:=h.cell ⟨g,o,none⟩ _ hg hc;rw[l.slice]at hv;exact hv
theorem Inks.int {P:Nat→Prop}{w w':World}(h:Inks P w w') {g o:Nat}(hg:g<w.heap.size) {k:IntKind}{z:Int}(hc:w.cell? ⟨g,o,none⟩=some (.int k z)):∃ z',w'.cell? ⟨g,o,none⟩=some (.int k z'):=by
 obtain⟨v,hv,l⟩:=h.cell ⟨g,o,none⟩ _ hg hc;obtain⟨z',e⟩:=l.int;exact⟨z',by rw[←e];exact hv⟩
theorem Inks.fz {P:Nat→Prop}{w w':World}(h:Inks P w w') {g o:Nat}(hg:g<w.heap.size) {b:Bool}(hc:w.frozen? ⟨g,o,none⟩=b):w'.frozen? ⟨g,o,none⟩=b:=by
 rw[h.frozen ⟨g,o,none⟩ hg];exact hc
theorem Inks.set {P:Nat→Prop}{w w':World}(h:Inks P w w') {g o:Nat}(hp:P g) {k:IntKind}{z:Int}(z':Int) (hc:w'.cell? ⟨g,o,none⟩=some (.int k z)):Inks P w (w'.setCell ⟨g,o,none⟩ (.int k z')):=by
 refine h.trans ⟨rfl,rfl,rfl,by rw[World.size_setCell];exact Nat.le_refl _,fun b _ hn=>?_,fun a _=>by rw[World.frozen?_setCell],fun a u _ hu=>?_⟩
 ·rw[Below.heap_setCell _ _ _ _ (fun e=>hn (by rw[e];exact hp))]
 ·by_cases e:(⟨g,o,none⟩:Addr)=a
  ·subst e;rw[hc]at hu
   cases hu
   exact⟨_,set_same hc,Or.inr (Or.inl ⟨k,z,z',rfl,rfl⟩)⟩
  ·exact⟨u,by rw[set_other e];exact hu,Like.refl u⟩
theorem Inks.setb {P:Nat→Prop}{w w':World}(h:Inks P w w') {g o:Nat}(hp:P g) {z:Bool}(z':Bool) (hc:w'.cell? ⟨g,o,none⟩=some (.bool z)):Inks P w (w'.setCell ⟨g,o,none⟩ (.bool z')):=by
 refine h.trans ⟨rfl,rfl,rfl,by rw[World.size_setCell];exact Nat.le_refl _,fun b _ hn=>?_,fun a _=>by rw[World.frozen?_setCell],fun a u _ hu=>?_⟩
 ·rw[Below.heap_setCell _ _ _ _ (fun e=>hn (by rw[e];exact hp))]
 ·by_cases e:(⟨g,o,none⟩:Addr)=a
  ·subst e;rw[hc]at hu
   cases hu
   exact⟨_,set_same hc,Or.inr (Or.inr ⟨z,z',rfl,rfl⟩)⟩
  ·exact⟨u,by rw[set_other e];exact hu,Like.refl u⟩
theorem Inks.later {P:Nat→Prop}{w w':World}(h:Later w w'):Inks P w w' :=
 ⟨h.os,h.tape,h.output,h.size,fun b hb _=>h.block b hb,fun a ha=>Below.frozen h ha,fun a u ha hu=>⟨u,by rw[Below.cell h ha];exact hu,Like.refl u⟩⟩
def Likes:List Value→List Value→Prop
 | [],cs=>cs=[]
 | u::r,cs=>∃ v r',cs=v::r'∧Like u v∧Likes r r'
theorem Likes.app:∀ {a b c:List Value},Likes (a++b) c→∃ a' b',c=a'++b'∧Likes a a'∧Likes b b'
 | [],b,c,h=>⟨[],c,rfl,by rw[Likes],h⟩
 | u::r,b,c,h=>by
  rw[List.cons_append,Likes]at h;obtain⟨v,r',rfl,l,hr⟩:=h;obtain⟨a',b',rfl,ha,hb⟩:=Likes.app hr;exact⟨v::a',b',rfl,by rw[Likes];exact⟨v,a',rfl,l,ha⟩,hb⟩
theorem Likes.one {u:Value}{c:List Value}(h:Likes [u] c):∃ v,c=[v]∧Like u v:=by
 rw[Likes]at h;obtain⟨v,r',rfl,l,hr⟩:=h;rw[Likes]at hr;exact⟨v,by rw[hr],l⟩
theorem Likes.len:∀ {a b:List Value},Likes a b→b.length=a.length
 | [],b,h=>by rw[Likes]at h;rw[h]
 | u::r,b,h=>by
  rw[Likes]at h;obtain⟨v,r',rfl,_,hr⟩:=h;rw[List.length_cons,List.length_cons,hr.len]
theorem Inks.cells {P:Nat→Prop}{w w':World}(h:Inks P w w') {g:Nat}(hg:g<w.heap.size):∀ (cs:List Value) (o:Nat),(∀ m u,cs[m]?=some u→w.cell? ⟨g,o+m,none⟩=some u∧w.frozen? ⟨g,o+m,none⟩=false) →
  ∃ cs',Likes cs cs'∧∀ m u,cs'[m]?=some u→w'.cell? ⟨g,o+m,none⟩=some u∧w'.frozen? ⟨g,o+m,none⟩=false
 | [],o,_=>⟨[],by rw[Likes],fun m u hm=>by simp at hm⟩
 | c::r,o,hc=>by
  obtain⟨h0,f0⟩:=hc 0 c rfl;obtain⟨v,hv,l⟩:=h.cell ⟨g,o+0,none⟩ c hg h0
  obtain⟨r',hr,hr'⟩:=h.cells hg r (o+1) (fun m u hm=>by
   have:=hc (m+1) u (by simpa using hm);rw[show o+(m+1)=o+1+m by omega]at this
   exact this)
  refine⟨v::r',by rw[Likes];exact⟨v,r',rfl,l,hr⟩,fun m u hm=>?_⟩
  match m,hm with
  | 0,hm =>
   have e:v=u:=by simpa using hm
   rw[←e];exact⟨hv,h.fz hg f0⟩
  | m+1,hm =>
   have:=hr' m u (by simpa using hm);rw[show o+(m+1)=o+1+m by omega];exact this
mutual
def Sk (P:Nat→Prop) (w:World):Dat→List Value→Prop
 | .int _,cs=>∃ z,cs=[.int .i64 z]
 | .bool _,cs=>∃ z,cs=[.bool z]
 | .bytes zs,cs=>∃ a cap,cs=[.slice a zs.length cap]∧zs.length≤1048576 ∧
   (0<zs.length→∃ g,a=some ⟨g,0,none⟩∧P g∧g<w.heap.size∧∀ j,j<zs.length→(∃ z,w.cell? ⟨g,j,none⟩=some (.int .u8 z))∧w.frozen? ⟨g,j,none⟩=false)
 | .agg fs,cs=>SkAgg P w fs cs
 | .list k l,cs=>∃ a cap,cs=[.slice a l.length cap]∧l.length≤1048576 ∧
   (0<l.length→∃ g,a=some ⟨g,0,none⟩∧P g∧g<w.heap.size∧SkAll P w k g 0 l)
def SkAgg (P:Nat→Prop) (w:World):List Dat→List Value→Prop
 | [],cs=>cs=[]
 | d::r,cs=>∃ c1 c2,cs=c1++c2∧Sk P w d c1∧SkAgg P w r c2
def SkAll (P:Nat→Prop) (w:World) (k:Nat) (g:Nat):Nat→List Dat→Prop
 | _,[]=>True
 | i,d::r=>(∃ cs,cs.length=k∧(∀ m u,cs[m]?=some u→w.cell? ⟨g,i*k+m,none⟩=some u∧w.frozen? ⟨g,i*k+m,none⟩=false)∧Sk P w d cs)∧SkAll P w k g (i+1) r
end
mutual
theorem OwnD.sk {P:Nat→Prop}{w:World}:∀ (d:Dat) {cs:List Value}{F:List Nat},OwnD w d cs F→(∀ b∈F,P b)→Sk P w d cs
 | .int n,cs,F,h,_=>by rw[OwnD]at h;rw[Sk];exact⟨n,h.1⟩
 | .bool n,cs,F,h,_=>by rw[OwnD]at h;rw[Sk];exact⟨n,h.1⟩
 | .bytes zs,cs,F,h,hp=>by
  rw[OwnD]at h;rw[Sk];obtain⟨a,cap,rfl,hl,_,hc,_⟩:=h;refine⟨a,cap,rfl,hl.1,fun h0=>?_⟩;obtain⟨g,rfl,rfl,hg,hh⟩:=hc h0;exact⟨g,rfl,hp g (List.mem_singleton.2 rfl),hg,fun j hj=>⟨⟨_,(hh j hj).1⟩,(hh j hj).2⟩⟩
 | .agg fs,cs,F,h,hp=>by rw[OwnD]at h;rw[Sk];exact OwnAgg.sk fs h hp
 | .list k l,cs,F,h,hp=>by
  rw[OwnD]at h;rw[Sk];obtain⟨a,cap,rfl,hl,hc,_⟩:=h;refine⟨a,cap,rfl,hl.1,fun h0=>?_⟩;obtain⟨g,F',rfl,rfl,hg,hh⟩:=hc h0;exact⟨g,rfl,hp g (List.mem_cons_self ..),hg,OwnAll.sk l hh (fun b hb=>hp b (List.mem_cons_of_mem _ hb))⟩
theorem OwnAgg.sk {P:Nat→Prop}{w:World}:∀ (fs:List Dat) {cs:List Value}{F:List Nat},OwnAgg w fs cs F→(∀ b∈F,P b)→SkAgg P w fs cs
 | [],cs,F,h,_=>by rw[OwnAgg]at h;rw[SkAgg];exact h.1
 | d::r,cs,F,h,hp=>by
  rw[OwnAgg]at h;rw[SkAgg];obtain⟨c1,c2,F1,F2,e,rfl,h1,h2⟩:=h;exact⟨c1,c2,e,OwnD.sk d h1 (fun b hb=>hp b (List.mem_append_left _ hb)),OwnAgg.sk r h2 (fun b hb=>hp b (List.mem_append_right _ hb))⟩
theorem OwnAll.sk {P:Nat→Prop}{w:World}{k g:Nat}:∀ (l:List Dat) {i:Nat}{F:List Nat},OwnAll w k g i l F→(∀ b∈F,P b)→SkAll P w k g i l
 | [],i,F,_,_=>by rw[SkAll];trivial
 | d::r,i,F,h,hp=>by
  rw[OwnAll]at h;rw[SkAll];obtain⟨cs,F1,F2,rfl,hk,hc,hd,hr⟩:=h;exact⟨⟨cs,hk,hc,OwnD.sk d hd (fun b hb=>hp b (List.mem_append_left _ hb))⟩,OwnAll.sk r hr (fun b hb=>hp b (List.mem_append_right _ hb))⟩
end
mutual
theorem Sk.inks {P:Nat→Prop}{w w':World}(k:Inks P w w'):∀ (d:Dat) {cs cs':List Value},Sk P w d cs→Likes cs cs'→Sk P w' d cs'
 | .int n,cs,cs',h,hl=>by
  rw[Sk]at h ⊢;obtain⟨z,rfl⟩:=h;obtain⟨v,rfl,l⟩:=hl.one;obtain⟨z',rfl⟩:=l.int;exact⟨z',rfl⟩
 | .bool n,cs,cs',h,hl=>by
  rw[Sk]at h ⊢;obtain⟨z,rfl⟩:=h;obtain⟨v,rfl,l⟩:=hl.one;obtain⟨z',rfl⟩:=l.bool;exact⟨z',rfl⟩
 | .bytes zs,cs,cs',h,hl=>by
  rw[Sk]at h ⊢;obtain⟨a,cap,rfl,hn,hc⟩:=h;obtain⟨v,rfl,l⟩:=hl.one;obtain rfl:=l.slice;refine⟨a,cap,rfl,hn,fun h0=>?_⟩;obtain⟨g,rfl,hp,hg,hh⟩:=hc h0;refine⟨g,rfl,hp,Nat.lt_of_lt_of_le hg k.size,fun j hj=>?_⟩;obtain⟨⟨z,hz⟩,hf⟩:=hh j hj;exact⟨k.int hg hz,k.fz hg hf⟩
 | .agg fs,cs,cs',h,hl=>by rw[Sk]at h ⊢;exact SkAgg.inks k fs h hl
 | .list q l,cs,cs',h,hl=>by
  rw[Sk]at h ⊢;obtain⟨a,cap,rfl,hn,hc⟩:=h;obtain⟨v,rfl,e⟩:=hl.one;obtain rfl:=e.slice;refine⟨a,cap,rfl,hn,fun h0=>?_⟩;obtain⟨g,rfl,hp,hg,hh⟩:=hc h0;exact⟨g,rfl,hp,Nat.lt_of_lt_of_le hg k.size,SkAll.inks k hg l hh⟩
theorem SkAgg.inks {P:Nat→Prop}{w w':World}(k:Inks P w w'):∀ (fs:List Dat) {cs cs':List Value},SkAgg P w fs cs→Likes cs cs'→SkAgg P w' fs cs'
 | [],cs,cs',h,hl=>by
  rw[SkAgg]at h ⊢;subst h;rw[Likes]at hl;exact hl
 | d::r,cs,cs',h,hl=>by
  rw[SkAgg]at h ⊢;obtain⟨c1,c2,rfl,h1,h2⟩:=h;obtain⟨a',b',rfl,ha,hb⟩:=hl.app;exact⟨a',b',rfl,Sk.inks k d h1 ha,SkAgg.inks k r h2 hb⟩
theorem SkAll.inks {P:Nat→Prop}{w w':World}(k:Inks P w w') {q g:Nat}(hg:g<w.heap.size):∀ (l:List Dat) {i:Nat},SkAll P w q g i l→SkAll P w' q g i l
 | [],i,_=>by rw[SkAll];trivial
 | d::r,i,h=>by
  rw[SkAll]at h ⊢;obtain⟨⟨cs,hk,hc,hd⟩,hr⟩:=h;obtain⟨cs',hl,hc'⟩:=k.cells hg cs (i*q) hc;exact⟨⟨cs',hl.len.trans hk,hc',Sk.inks k d hd hl⟩,SkAll.inks k hg r hr⟩
end
theorem Sk.slice_inks {P:Nat→Prop}{w w':World}{d:Dat}{a:Option Addr}{n c:Nat}(h:Sk P w d [.slice a n c]) (k:Inks P w w'):Sk P w' d [.slice a n c] :=
 Sk.inks k d h (by rw[Likes];exact⟨_,[],rfl,Like.refl _,by rw[Likes]⟩)
theorem SkAll.at {P:Nat→Prop}{w:World}{k g:Nat}:∀ (l:List Dat) {i:Nat},SkAll P w k g i l→∀ j (hj:j<l.length),∃ cs,cs.length=k∧(∀ m u,cs[m]?=some u→w.cell? ⟨g,(i+j)*k+m,none⟩=some u∧w.frozen? ⟨g,(i+j)*k+m,none⟩=false)∧Sk P w l[j] cs
 | d::r,i,h,0,_=>by rw[SkAll]at h;exact h.1
 | d::r,i,h,j+1,hj=>by
  rw[SkAll]at h;have:=SkAll.at r h.2 j (by simpa using hj);rw[show i+1+j=i+(j+1) by omega]at this;exact this
theorem Sk.elem {P:Nat→Prop}{w:World}{k:Nat}{l:List Dat}{v:Value}(h:Sk P w (.list k l) [v]) (j:Nat) (hj:j<l.length):∃ g cap cs,v=.slice (some ⟨g,0,none⟩) l.length cap∧P g∧g<w.heap.size∧cs.length=k∧(∀ m u,cs[m]?=some u→w.cell? ⟨g,j*k+m,none⟩=some u∧w.frozen? ⟨g,j*k+m,none⟩=false)∧Sk P w l[j] cs:=by
 rw[Sk]at h;obtain⟨a,cap,e,_,hc⟩:=h
 cases e
 obtain⟨g,rfl,hp,hg,hh⟩:=hc (by omega);obtain⟨cs,hk,hcc,hd⟩:=SkAll.at l hh j hj;rw[Nat.zero_add]at hcc;exact⟨g,cap,cs,rfl,hp,hg,hk,hcc,hd⟩
theorem Sk.lslice {P:Nat→Prop}{w:World}{k:Nat}{l:List Dat}{v:Value}(h:Sk P w (.list k l) [v]):∃ a cap,v=.slice a l.length cap∧l.length≤1048576:=by
 rw[Sk]at h;obtain⟨a,cap,e,hl,_⟩:=h
 cases e
 exact⟨a,cap,rfl,hl⟩
theorem Sk.bslice {P:Nat→Prop}{w:World}{zs:List Int}{v:Value}(h:Sk P w (.bytes zs) [v]):∃ a cap,v=.slice a zs.length cap∧zs.length≤1048576:=by
 rw[Sk]at h;obtain⟨a,cap,e,hl,_⟩:=h
 cases e
 exact⟨a,cap,rfl,hl⟩
def MkQ (P:Nat→Prop) (w:World) (k:Int) (n:Nat) (e:Ending) (w':World):Prop:=∃ k',e=.returned (.int .i64 k')∧k≤k'∧k'≤k+n∧Inks P w w'
theorem cell_block {w w':World}{g:Nat}(h:w'.heap[g]?=w.heap[g]?) (o:Nat):w'.cell? ⟨g,o,none⟩=w.cell? ⟨g,o,none⟩∧w'.frozen? ⟨g,o,none⟩=w.frozen? ⟨g,o,none⟩ :=
 ⟨by unfold World.cell?;rw[show w'.heap[(⟨g,o,none⟩:Addr).block]?=w.heap[(⟨g,o,none⟩:Addr).block]? from h],by unfold World.frozen?;rw[show w'.heap[(⟨g,o,none⟩:Addr).block]?=w.heap[(⟨g,o,none⟩:Addr).block]? from h]⟩
theorem Inks.below {P:Nat→Prop}{w w':World}(h:Inks P w w') {B:Nat}(hP:∀ b,P b→B≤b) (hB:B≤w.heap.size):Below B w w':=⟨h.os,h.tape,h.output,h.size,fun b hb=>h.block b (by omega) (fun hp=>by have:=hP b hp;omega)⟩
theorem Below.cut {w w1 w2:World}(h:Later w w1) (k:Below w.heap.size w1 w2):Later w w2:=⟨k.os.trans h.os,k.tape.trans h.tape,k.output.trans h.output,Nat.le_trans h.size k.size,fun b hb=>by rw[k.block b hb,h.block b hb]⟩
theorem In.skElem {P:Nat→Prop}{w:World}{l:List In}{v:Value}(h:Sk P w (.list 1 (In.dats l)) [v]) (j:Nat) (hj:j<l.length):∃ g cap y0,v=.slice (some ⟨g,0,none⟩) l.length cap∧P g∧g<w.heap.size∧w.cell? ⟨g,j,none⟩=some (.int .i64 y0)∧w.frozen? ⟨g,j,none⟩=false:=by
 obtain⟨g,cap,cs,rfl,hp,hg,_,hc,hd⟩:=h.elem j (by rw[In.dats_len];exact hj)
 have e:(In.dats l)[j]'(by rw[In.dats_len];exact hj)=.int l[j]:=List.getElem_map ..
 rw[e,Sk]at hd;obtain⟨z,rfl⟩:=hd;have:=hc 0 _ rfl;rw[Nat.mul_one,Nat.add_zero]at this;exact⟨g,cap,z,by rw[In.dats_len],hp,hg,this.1,this.2⟩
theorem markIns_sk {P:Nat→Prop}(v:Value) (l:List In) (k:Int) (w:World) (h:Sk P w (.list 1 (In.dats l)) [v]) (h0:0≤k) (h1:k+16*In.szs l≤4611686018427387904) :
  Calls Tryz.prog 39 #[v,.int .i64 k] w (MkQ P w k (16*In.szs l)):=by
 unfold In.szs at *;obtain⟨a,cap,rfl,hl⟩:=h.lslice;simp only[In.dats_len]at h hl ⊢;go_enter Tryz.func39,Tryz.ntmps39;go_wp2_with fail
 go_loopw [1,5] (fun kk i wr=>∃ j:Nat,kk=.int .i64 (k+j)∧i=.int .i64 (j:Int)∧j≤l.length∧Inks P w wr) (fun _ i _=>l.length - (intOf i).toNat)
 case atStart=>exact⟨0,by simp,rfl,Nat.zero_le _,Inks.refl _ _⟩
 case round =>
  obtain⟨j,rfl,rfl,hj,hw⟩:=hrel;by_cases hlt:j<l.length
  ·obtain⟨g,cap',y0,e,hp,hg,hz,hf⟩:=In.skElem (h.slice_inks hw) j hlt
   cases e
   have hi:(j:Int)<(l.length:Int):=by omega
   have hb1:0≤k+j:=by omega
   have hb2:k+j≤4611686018427387904:=by omega
   have hst:=hw.set hp (k+j) hz;clear hw h;go_wp2_with fail
   go_roundw
   case rel=>exact⟨j+1,by go_num,by go_num,by omega,hst⟩
   case measure=>simp[intOf];omega
  ·have hlt':decide ((j:Int)<(l.length:Int))=false:=by simp;omega
   have hjn:j=l.length:=by omega
   subst hjn;clear h;go_wp2_with fail
   go_ret;exact⟨_,rfl,by omega,by omega,hw⟩
theorem Bo.skElem {P:Nat→Prop}{w:World}{l:List Bo}{v:Value}(h:Sk P w (.list 1 (Bo.dats l)) [v]) (j:Nat) (hj:j<l.length):∃ g cap y0,v=.slice (some ⟨g,0,none⟩) l.length cap∧P g∧g<w.heap.size∧w.cell? ⟨g,j,none⟩=some (.bool y0)∧w.frozen? ⟨g,j,none⟩=false:=by
 obtain⟨g,cap,cs,rfl,hp,hg,_,hc,hd⟩:=h.elem j (by rw[Bo.dats_len];exact hj)
 have e:(Bo.dats l)[j]'(by rw[Bo.dats_len];exact hj)=.bool l[j]:=List.getElem_map ..
 rw[e,Sk]at hd;obtain⟨z,rfl⟩:=hd;have:=hc 0 _ rfl;rw[Nat.mul_one,Nat.add_zero]at this;exact⟨g,cap,z,by rw[Bo.dats_len],hp,hg,this.1,this.2⟩
theorem markBos_sk {P:Nat→Prop}(v:Value) (l:List Bo) (k:Int) (w:World) (h:Sk P w (.list 1 (Bo.dats l)) [v]) (h0:0≤k) (h1:k+16*Bo.szs l≤4611686018427387904) :
  Calls Tryz.prog 70 #[v,.int .i64 k] w (MkQ P w k (16*Bo.szs l)):=by
 unfold Bo.szs at *;obtain⟨a,cap,rfl,hl⟩:=h.lslice;simp only[Bo.dats_len]at h hl ⊢;go_enter Tryz.func70,Tryz.ntmps70;go_wp2_with fail
 go_loopw [1,5] (fun kk i wr=>∃ j:Nat,kk=.int .i64 (k+j)∧i=.int .i64 (j:Int)∧j≤l.length∧Inks P w wr) (fun _ i _=>l.length - (intOf i).toNat)
 case atStart=>exact⟨0,by simp,rfl,Nat.zero_le _,Inks.refl _ _⟩
 case round =>
  obtain⟨j,rfl,rfl,hj,hw⟩:=hrel;by_cases hlt:j<l.length
  ·obtain⟨g,cap',y0,e,hp,hg,hz,hf⟩:=Bo.skElem (h.slice_inks hw) j hlt
   cases e
   have hi:(j:Int)<(l.length:Int):=by omega
   have hb1:0≤k+j:=by omega
   have hb2:k+j≤4611686018427387904:=by omega
   have hst:=hw.setb hp ((k+j) % 3==0) hz;clear hw h;go_wp2_with fail
   go_roundw
   case rel=>exact⟨j+1,by go_num,by go_num,by omega,hst⟩
   case measure=>simp[intOf];omega
  ·have hlt':decide ((j:Int)<(l.length:Int))=false:=by simp;omega
   have hjn:j=l.length:=by omega
   subst hjn;clear h;go_wp2_with fail
   go_ret;exact⟨_,rfl,by omega,by omega,hw⟩
theorem Is.skElem {P:Nat→Prop}{w:World}{l:List Is}{v:Value}(h:Sk P w (.list 5 (Is.dats l)) [v]) (j:Nat) (hj:j<l.length):∃ g cap y0 y1 y2 y3 y4,v=.slice (some ⟨g,0,none⟩) l.length cap∧P g∧g<w.heap.size∧w.cell? ⟨g,j*5,none⟩=some (.int .i64 y0)∧w.cell? ⟨g,j*5+1,none⟩=some (.int .i64 y1)∧w.cell? ⟨g,j*5+2,none⟩=some (.int .i64 y2)∧w.cell? ⟨g,j*5+3,none⟩=some (.int .i64 y3)∧w.cell? ⟨g,j*5+4,none⟩=some (.int .i64 y4)∧w.frozen? ⟨g,j*5,none⟩=false∧w.frozen? ⟨g,j*5+1,none⟩=false∧w.frozen? ⟨g,j*5+2,none⟩=false∧w.frozen? ⟨g,j*5+3,none⟩=false∧w.frozen? ⟨g,j*5+4,none⟩=false:=by
 obtain⟨g,cap,cs,rfl,hp,hg,_,hc,hd⟩:=h.elem j (by rw[Is.dats_len];exact hj)
 have e:(Is.dats l)[j]'(by rw[Is.dats_len];exact hj)=Is.dat l[j]:=List.getElem_map ..
 rw[e,Is.dat,Sk]at hd;rw[SkAgg]at hd;obtain⟨c0,d0,rfl,h0,hd⟩:=hd;rw[Sk]at h0;obtain⟨y0,rfl⟩:=h0;rw[SkAgg]at hd;obtain⟨c1,d1,rfl,h1,hd⟩:=hd;rw[Sk]at h1;obtain⟨y1,rfl⟩:=h1;rw[SkAgg]at hd;obtain⟨c2,d2,rfl,h2,hd⟩:=hd;rw[Sk]at h2;obtain⟨y2,rfl⟩:=h2;rw[SkAgg]at hd;obtain⟨c3,d3,rfl,h3,hd⟩:=hd;rw[Sk]at h3;obtain⟨y3,rfl⟩:=h3;rw[SkAgg]at hd;obtain⟨c4,d4,rfl,h4,hd⟩:=hd;rw[Sk]at h4;obtain⟨y4,rfl⟩:=h4;rw[SkAgg]at hd;subst hd;exact⟨g,cap,y0,y1,y2,y3,y4,by rw[Is.dats_len],hp,hg,(hc 0 _ rfl).1,(hc 1 _ rfl).1,(hc 2 _ rfl).1,(hc 3 _ rfl).1,(hc 4 _ rfl).1,(hc 0 _ rfl).2,(hc 1 _ rfl).2,(hc 2 _ rfl).2,(hc 3 _ rfl).2,(hc 4 _ rfl).2⟩
theorem markIss_sk {P:Nat→Prop}(v:Value) (l:List Is) (k:Int) (w:World) (h:Sk P w (.list 5 (Is.dats l)) [v]) (h0:0≤k) (h1:k+16*Is.szs l≤4611686018427387904) :
  Calls Tryz.prog 71 #[v,.int .i64 k] w (MkQ P w k (16*Is.szs l)):=by
 unfold Is.szs at *;obtain⟨a,cap,rfl,hl⟩:=h.lslice;simp only[Is.dats_len]at h hl ⊢;go_enter Tryz.func71,Tryz.ntmps71;go_wp2_with fail
 go_loopw [1,5] (fun kk i wr=>∃ (j:Nat) (k':Int),kk=.int .i64 k'∧i=.int .i64 (j:Int)∧j≤l.length∧k'=k+5*(j:Int)∧Inks P w wr) (fun _ i _=>l.length - (intOf i).toNat)
 case atStart=>exact⟨0,k,rfl,rfl,Nat.zero_le _,by simp,Inks.refl _ _⟩
 case round =>
  obtain⟨j,k',rfl,rfl,hj,hkk,hw⟩:=hrel;by_cases hlt:j<l.length
  ·obtain⟨g,cap',y0,y1,y2,y3,y4,e,hp,hg,c0,c1,c2,c3,c4,f0,f1,f2,f3,f4⟩:=Is.skElem (h.slice_inks hw) j hlt
   cases e
   have hi:(j:Int)<(l.length:Int):=by omega
   have hb1:0≤k':=by omega
   have hb2:k'+5≤4611686018427387904:=by omega
   have K0:Inks P wr wr:=Inks.refl _ _;obtain⟨x0,d0⟩:=K0.int hg c0;have K1:=K0.set hp (k') d0;have w0a:-9223372036854775808≤k'+1:=by omega
   have w0b:k'+1≤9223372036854775807:=by omega
   obtain⟨x1,d1⟩:=K1.int hg c1;have K2:=K1.set hp (k'+1) d1;have w1a:-9223372036854775808≤k'+1+1:=by omega
   have w1b:k'+1+1≤9223372036854775807:=by omega
   obtain⟨x2,d2⟩:=K2.int hg c2;have K3:=K2.set hp (k'+1+1) d2;have w2a:-9223372036854775808≤k'+1+1+1:=by omega
   have w2b:k'+1+1+1≤9223372036854775807:=by omega
   obtain⟨x3,d3⟩:=K3.int hg c3;have K4:=K3.set hp (k'+1+1+1) d3;have w3a:-9223372036854775808≤k'+1+1+1+1:=by omega
   have w3b:k'+1+1+1+1≤9223372036854775807:=by omega
   obtain⟨x4,d4⟩:=K4.int hg c4;have K5:=K4.set hp (k'+1+1+1+1) d4;have w4a:-9223372036854775808≤k'+1+1+1+1+1:=by omega
   have w4b:k'+1+1+1+1+1≤9223372036854775807:=by omega
   have hst:=hw.trans K5;have HK:Hid (k'=k+5*(j:Int)):=hkk;clear hkk hw h d0 d1 d2 d3 d4 K0 K1 K2 K3 K4 K5;go_wp2_with fail
   go_roundw
   case rel=>exact⟨j+1,k'+1+1+1+1+1,by first|rfl|go_num,by go_num,by omega,by have:=HK.out;omega,hst⟩
   case measure=>simp[intOf];omega
  ·have hlt':decide ((j:Int)<(l.length:Int))=false:=by simp;omega
   have hjn:j=l.length:=by omega
   subst hjn;clear h;go_wp2_with fail
   go_ret;exact⟨_,rfl,by omega,by omega,hw⟩
theorem Bs.szEq (x:Bs):x.sz=Bo.szs x.l:=by obtain⟨l⟩:=x;rfl
theorem Bs.skView {P:Nat→Prop}{w:World}{x:Bs}{cs:List Value}(h:Sk P w x.dat cs):∃ a0 p0,cs=[.slice a0 x.l.length p0]∧Sk P w (.list 1 (Bo.dats x.l)) [.slice a0 x.l.length p0]:=by
 obtain⟨l⟩:=x;rw[Bs.dat,Sk]at h;rw[SkAgg]at h;obtain⟨c0,d0,rfl,h0,h⟩:=h;have e0:=h0;rw[Sk]at e0;obtain⟨a0,p0,rfl,_⟩:=e0;rw[Bo.dats_len]at h0;rw[SkAgg]at h;subst h;exact⟨_,_,by simp only[Bo.dats_len];rfl,h0⟩
theorem Bs.skElem {P:Nat→Prop}{w:World}{l:List Bs}{v:Value}(h:Sk P w (.list 1 (Bs.dats l)) [v]) (j:Nat) (hj:j<l.length):∃ g cap a0 p0,v=.slice (some ⟨g,0,none⟩) l.length cap∧P g∧g<w.heap.size∧w.cell? ⟨g,j,none⟩=some (.slice a0 l[j].l.length p0)∧Sk P w (.list 1 (Bo.dats l[j].l)) [.slice a0 l[j].l.length p0]:=by
 obtain⟨g,cap,cs,rfl,hp,hg,_,hc,hd⟩:=h.elem j (by rw[Bs.dats_len];exact hj);rw[Bs.dats_at l j hj]at hd;obtain⟨a0,p0,rfl,r0⟩:=Bs.skView hd;exact⟨g,cap,a0,p0,by rw[Bs.dats_len],hp,hg,by have:=(hc 0 _ rfl).1;rwa [Nat.mul_one,Nat.add_zero]at this,r0⟩
theorem markBss_sk {P:Nat→Prop}(v:Value) (l:List Bs) (k:Int) (w:World) (h:Sk P w (.list 1 (Bs.dats l)) [v]) (h0:0≤k) (h1:k+16*Bs.szs l≤4611686018427387904) :
  Calls Tryz.prog 37 #[v,.int .i64 k] w (MkQ P w k (16*Bs.szs l)):=by
 obtain⟨a,cap,rfl,hl⟩:=h.lslice;simp only[Bs.dats_len]at h hl ⊢;have hpa:=Bs.pre_all l;go_enter Tryz.func37,Tryz.ntmps37;go_wp2_with fail
 go_loopw [1,5] (fun kk i wr=>∃ (j:Nat) (k':Int),kk=.int .i64 k'∧i=.int .i64 (j:Int)∧j≤l.length∧k≤k'∧k'≤k+16*((j+Bs.pre l j:Nat):Int)∧Inks P w wr) (fun _ i _=>l.length - (intOf i).toNat)
 case atStart=>exact⟨0,k,rfl,rfl,Nat.zero_le _,Int.le_refl _,by rw[Bs.pre_zero];simp,Inks.refl _ _⟩
 case round =>
  obtain⟨j,k',rfl,rfl,hj,hk0,hk1,hw⟩:=hrel;by_cases hlt:j<l.length
  ·obtain⟨g,cap',a0,p0,e,hp,hg,c0,r0⟩:=Bs.skElem (h.slice_inks hw) j hlt
   cases e
   have i1:(j:Int)<(l.length:Int):=by omega
   have hps:=Bs.pre_succ hlt;have hpl:=Bs.pre_le l (j+1) (by omega);rw[Bs.szEq]at hps;have hZ:Hid (Bs.pre l (j+1)=Bs.pre l j+(Bo.szs l[j].l)):=hps;have hK1:0≤k':=by omega
   have hK2:k'≤4611686018427387904:=by omega
   have hB:k'+16+16*(Bo.szs l[j].l:Nat)≤4611686018427387904:=by omega
   clear h hps hpl hpa;have I0:Inks P wr wr:=Inks.refl _ _;go_wp2_with fail
   refine (markBos_sk _ _ _ _ (r0.slice_inks I0) (by omega) (by omega)).mono ?_;rintro e w1 ⟨k1,rfl,u1,t1,J1⟩;have I1:=I0.trans J1;have hgw1:=Nat.lt_of_lt_of_le hg I1.size;have IE:=hw.trans I1;go_wp2_with fail
   go_roundw
   case rel=>exact⟨j+1,k1,by first|rfl|go_num,by go_num,by omega,by omega,by rw[hZ.out];omega,IE⟩
   case measure=>simp[intOf];omega
  ·have i1:¬ (j:Int)<(l.length:Int):=by omega
   have i2:decide ((j:Int)<(l.length:Int))=false:=decide_eq_false i1;have hkk:j=l.length:=by omega
   subst hkk;clear h;go_wp2_with fail
   go_ret;exact⟨_,rfl,by omega,by omega,hw⟩
theorem Ma.szEq (x:Ma):x.sz=In.szs x.slots:=by obtain⟨pc,slots⟩:=x;rfl
theorem Ma.skView {P:Nat→Prop}{w:World}{x:Ma}{cs:List Value}(h:Sk P w x.dat cs):∃ y0 a1 p1,cs=[.int .i64 y0,.slice a1 x.slots.length p1]∧Sk P w (.list 1 (In.dats x.slots)) [.slice a1 x.slots.length p1]:=by
 obtain⟨pc,slots⟩:=x;rw[Ma.dat,Sk]at h;rw[SkAgg]at h;obtain⟨c0,d0,rfl,h0,h⟩:=h;rw[Sk]at h0;obtain⟨y0,rfl⟩:=h0;rw[SkAgg]at h;obtain⟨c1,d1,rfl,h1,h⟩:=h;have e1:=h1;rw[Sk]at e1;obtain⟨a1,p1,rfl,_⟩:=e1;rw[In.dats_len]at h1;rw[SkAgg]at h;subst h;exact⟨_,_,_,by simp only[In.dats_len];rfl,h1⟩
theorem Ma.skElem {P:Nat→Prop}{w:World}{l:List Ma}{v:Value}(h:Sk P w (.list 2 (Ma.dats l)) [v]) (j:Nat) (hj:j<l.length):∃ g cap y0 a1 p1,v=.slice (some ⟨g,0,none⟩) l.length cap∧P g∧g<w.heap.size∧w.cell? ⟨g,j*2,none⟩=some (.int .i64 y0)∧w.cell? ⟨g,j*2+1,none⟩=some (.slice a1 l[j].slots.length p1)∧w.frozen? ⟨g,j*2,none⟩=false∧Sk P w (.list 1 (In.dats l[j].slots)) [.slice a1 l[j].slots.length p1]:=by
 obtain⟨g,cap,cs,rfl,hp,hg,_,hc,hd⟩:=h.elem j (by rw[Ma.dats_len];exact hj);rw[Ma.dats_at l j hj]at hd;obtain⟨y0,a1,p1,rfl,r1⟩:=Ma.skView hd;exact⟨g,cap,y0,a1,p1,by rw[Ma.dats_len],hp,hg,(hc 0 _ rfl).1,(hc 1 _ rfl).1,(hc 0 _ rfl).2,r1⟩
theorem markMas_sk {P:Nat→Prop}(v:Value) (l:List Ma) (k:Int) (w:World) (h:Sk P w (.list 2 (Ma.dats l)) [v]) (h0:0≤k) (h1:k+16*Ma.szs l≤4611686018427387904) :
  Calls Tryz.prog 72 #[v,.int .i64 k] w (MkQ P w k (16*Ma.szs l)):=by
 obtain⟨a,cap,rfl,hl⟩:=h.lslice;simp only[Ma.dats_len]at h hl ⊢;have hpa:=Ma.pre_all l;go_enter Tryz.func72,Tryz.ntmps72;go_wp2_with fail
 go_loopw [1,5] (fun kk i wr=>∃ (j:Nat) (k':Int),kk=.int .i64 k'∧i=.int .i64 (j:Int)∧j≤l.length∧k≤k'∧k'≤k+16*((j+Ma.pre l j:Nat):Int)∧Inks P w wr) (fun _ i _=>l.length - (intOf i).toNat)
 case atStart=>exact⟨0,k,rfl,rfl,Nat.zero_le _,Int.le_refl _,by rw[Ma.pre_zero];simp,Inks.refl _ _⟩
 case round =>
  obtain⟨j,k',rfl,rfl,hj,hk0,hk1,hw⟩:=hrel;by_cases hlt:j<l.length
  ·obtain⟨g,cap',y0,a1,p1,e,hp,hg,c0,c1,f0,r1⟩:=Ma.skElem (h.slice_inks hw) j hlt
   cases e
   have i1:(j:Int)<(l.length:Int):=by omega
   have hps:=Ma.pre_succ hlt;have hpl:=Ma.pre_le l (j+1) (by omega);rw[Ma.szEq]at hps;have hZ:Hid (Ma.pre l (j+1)=Ma.pre l j+(In.szs l[j].slots)):=hps;have hK1:0≤k':=by omega
   have hK2:k'≤4611686018427387904:=by omega
   have hB:k'+16+16*(In.szs l[j].slots:Nat)≤4611686018427387904:=by omega
   clear h hps hpl hpa;have I0:Inks P wr wr:=Inks.refl _ _;have w0a:-9223372036854775808≤k'+1:=by omega
   have w0b:k'+1≤9223372036854775807:=by omega
   have K0_0:Inks P wr wr:=Inks.refl _ _;obtain⟨x0,d0⟩:=K0_0.int hg c0;have K0_1:=K0_0.set hp (k') d0;have I0r0:=I0.trans K0_1;clear d0;go_wp2_with fail
   refine (markIns_sk _ _ _ _ (r1.slice_inks I0r0) (by omega) (by omega)).mono ?_;rintro e w1 ⟨k1,rfl,u1,t1,J1⟩;have I1:=I0r0.trans J1;have hgw1:=Nat.lt_of_lt_of_le hg I1.size;have IE:=hw.trans I1;go_wp2_with fail
   go_roundw
   case rel=>exact⟨j+1,k1,by first|rfl|go_num,by go_num,by omega,by omega,by rw[hZ.out];omega,IE⟩
   case measure=>simp[intOf];omega
  ·have i1:¬ (j:Int)<(l.length:Int):=by omega
   have i2:decide ((j:Int)<(l.length:Int))=false:=decide_eq_false i1;have hkk:j=l.length:=by omega
   subst hkk;clear h;go_wp2_with fail
   go_ret;exact⟨_,rfl,by omega,by omega,hw⟩
theorem Cd.szEq (x:Cd):x.sz=Is.szs x.ins+Ma.szs x.maps:=by obtain⟨frame,params,ins,maps⟩:=x;rfl
theorem Cd.skView {P:Nat→Prop}{w:World}{x:Cd}{cs:List Value}(h:Sk P w x.dat cs):∃ y0 y1 a2 p2 a3 p3,cs=[.int .i64 y0,.int .i64 y1,.slice a2 x.ins.length p2,.slice a3 x.maps.length p3]∧Sk P w (.list 5 (Is.dats x.ins)) [.slice a2 x.ins.length p2]∧Sk P w (.list 2 (Ma.dats x.maps)) [.slice a3 x.maps.length p3]:=by
 obtain⟨frame,params,ins,maps⟩:=x;rw[Cd.dat,Sk]at h;rw[SkAgg]at h;obtain⟨c0,d0,rfl,h0,h⟩:=h;rw[Sk]at h0;obtain⟨y0,rfl⟩:=h0;rw[SkAgg]at h;obtain⟨c1,d1,rfl,h1,h⟩:=h;rw[Sk]at h1;obtain⟨y1,rfl⟩:=h1;rw[SkAgg]at h;obtain⟨c2,d2,rfl,h2,h⟩:=h;have e2:=h2;rw[Sk]at e2;obtain⟨a2,p2,rfl,_⟩:=e2;rw[Is.dats_len]at h2;rw[SkAgg]at h;obtain⟨c3,d3,rfl,h3,h⟩:=h;have e3:=h3;rw[Sk]at e3;obtain⟨a3,p3,rfl,_⟩:=e3;rw[Ma.dats_len]at h3;rw[SkAgg]at h;subst h;exact⟨_,_,_,_,_,_,by simp only[Is.dats_len,Ma.dats_len];rfl,h2,h3⟩
theorem Cd.skElem {P:Nat→Prop}{w:World}{l:List Cd}{v:Value}(h:Sk P w (.list 4 (Cd.dats l)) [v]) (j:Nat) (hj:j<l.length):∃ g cap y0 y1 a2 p2 a3 p3,v=.slice (some ⟨g,0,none⟩) l.length cap∧P g∧g<w.heap.size∧w.cell? ⟨g,j*4,none⟩=some (.int .i64 y0)∧w.cell? ⟨g,j*4+1,none⟩=some (.int .i64 y1)∧w.cell? ⟨g,j*4+2,none⟩=some (.slice a2 l[j].ins.length p2)∧w.cell? ⟨g,j*4+3,none⟩=some (.slice a3 l[j].maps.length p3)∧w.frozen? ⟨g,j*4,none⟩=false∧w.frozen? ⟨g,j*4+1,none⟩=false∧Sk P w (.list 5 (Is.dats l[j].ins)) [.slice a2 l[j].ins.length p2]∧Sk P w (.list 2 (Ma.dats l[j].maps)) [.slice a3 l[j].maps.length p3]:=by
 obtain⟨g,cap,cs,rfl,hp,hg,_,hc,hd⟩:=h.elem j (by rw[Cd.dats_len];exact hj);rw[Cd.dats_at l j hj]at hd;obtain⟨y0,y1,a2,p2,a3,p3,rfl,r2,r3⟩:=Cd.skView hd;exact⟨g,cap,y0,y1,a2,p2,a3,p3,by rw[Cd.dats_len],hp,hg,(hc 0 _ rfl).1,(hc 1 _ rfl).1,(hc 2 _ rfl).1,(hc 3 _ rfl).1,(hc 0 _ rfl).2,(hc 1 _ rfl).2,r2,r3⟩
theorem markCds_sk {P:Nat→Prop}(v:Value) (l:List Cd) (k:Int) (w:World) (h:Sk P w (.list 4 (Cd.dats l)) [v]) (h0:0≤k) (h1:k+16*Cd.szs l≤4611686018427387904) :
  Calls Tryz.prog 38 #[v,.int .i64 k] w (MkQ P w k (16*Cd.szs l)):=by
 obtain⟨a,cap,rfl,hl⟩:=h.lslice;simp only[Cd.dats_len]at h hl ⊢;have hpa:=Cd.pre_all l;go_enter Tryz.func38,Tryz.ntmps38;go_wp2_with fail
 go_loopw [1,5] (fun kk i wr=>∃ (j:Nat) (k':Int),kk=.int .i64 k'∧i=.int .i64 (j:Int)∧j≤l.length∧k≤k'∧k'≤k+16*((j+Cd.pre l j:Nat):Int)∧Inks P w wr) (fun _ i _=>l.length - (intOf i).toNat)
 case atStart=>exact⟨0,k,rfl,rfl,Nat.zero_le _,Int.le_refl _,by rw[Cd.pre_zero];simp,Inks.refl _ _⟩
 case round =>
  obtain⟨j,k',rfl,rfl,hj,hk0,hk1,hw⟩:=hrel;by_cases hlt:j<l.length
  ·obtain⟨g,cap',y0,y1,a2,p2,a3,p3,e,hp,hg,c0,c1,c2,c3,f0,f1,r2,r3⟩:=Cd.skElem (h.slice_inks hw) j hlt
   cases e
   have i1:(j:Int)<(l.length:Int):=by omega
   have hps:=Cd.pre_succ hlt;have hpl:=Cd.pre_le l (j+1) (by omega);rw[Cd.szEq]at hps;have hZ:Hid (Cd.pre l (j+1)=Cd.pre l j+(Is.szs l[j].ins+Ma.szs l[j].maps)):=hps;have hK1:0≤k':=by omega
   have hK2:k'≤4611686018427387904:=by omega
   have hB:k'+16+16*(Is.szs l[j].ins+Ma.szs l[j].maps:Nat)≤4611686018427387904:=by omega
   clear h hps hpl hpa;have I0:Inks P wr wr:=Inks.refl _ _;have w0a:-9223372036854775808≤k'+1:=by omega
   have w0b:k'+1≤9223372036854775807:=by omega
   have w1a:-9223372036854775808≤k'+1+1:=by omega
   have w1b:k'+1+1≤9223372036854775807:=by omega
   have K0_0:Inks P wr wr:=Inks.refl _ _;obtain⟨x0,d0⟩:=K0_0.int hg c0;have K0_1:=K0_0.set hp (k') d0;obtain⟨x1,d1⟩:=K0_1.int hg c1;have K0_2:=K0_1.set hp (k'+1) d1;have I0r0:=I0.trans K0_2;clear d0;clear d1;go_wp2_with fail
   refine (markIss_sk _ _ _ _ (r2.slice_inks I0r0) (by omega) (by omega)).mono ?_;rintro e w1 ⟨k1,rfl,u1,t1,J1⟩;have I1:=I0r0.trans J1;have hgw1:=Nat.lt_of_lt_of_le hg I1.size;have c3_1:=I1.slice hg c3;go_wp2_with fail
   refine (markMas_sk _ _ _ _ (r3.slice_inks I1) (by omega) (by omega)).mono ?_;rintro e w2 ⟨k2,rfl,u2,t2,J2⟩;have I2:=I1.trans J2;have hgw2:=Nat.lt_of_lt_of_le hg I2.size;have IE:=hw.trans I2;go_wp2_with fail
   go_roundw
   case rel=>exact⟨j+1,k2,by first|rfl|go_num,by go_num,by omega,by omega,by rw[hZ.out];omega,IE⟩
   case measure=>simp[intOf];omega
  ·have i1:¬ (j:Int)<(l.length:Int):=by omega
   have i2:decide ((j:Int)<(l.length:Int))=false:=decide_eq_false i1;have hkk:j=l.length:=by omega
   subst hkk;clear h;go_wp2_with fail
   go_ret;exact⟨_,rfl,by omega,by omega,hw⟩
theorem Im.szEq (x:Im):x.sz=Bs.szs x.structs+Cd.szs x.codes:=by obtain⟨structs,codes,main⟩:=x;rfl
theorem Im.skView {P:Nat→Prop}{w:World}{x:Im}{cs:List Value}(h:Sk P w x.dat cs):∃ a0 p0 a1 p1 y2,cs=[.slice a0 x.structs.length p0,.slice a1 x.codes.length p1,.int .i64 y2]∧Sk P w (.list 1 (Bs.dats x.structs)) [.slice a0 x.structs.length p0]∧Sk P w (.list 4 (Cd.dats x.codes)) [.slice a1 x.codes.length p1]:=by
 obtain⟨structs,codes,main⟩:=x;rw[Im.dat,Sk]at h;rw[SkAgg]at h;obtain⟨c0,d0,rfl,h0,h⟩:=h;have e0:=h0;rw[Sk]at e0;obtain⟨a0,p0,rfl,_⟩:=e0;rw[Bs.dats_len]at h0;rw[SkAgg]at h;obtain⟨c1,d1,rfl,h1,h⟩:=h;have e1:=h1;rw[Sk]at e1;obtain⟨a1,p1,rfl,_⟩:=e1;rw[Cd.dats_len]at h1;rw[SkAgg]at h;obtain⟨c2,d2,rfl,h2,h⟩:=h;rw[Sk]at h2;obtain⟨y2,rfl⟩:=h2;rw[SkAgg]at h;subst h;exact⟨_,_,_,_,_,by simp only[Bs.dats_len,Cd.dats_len];rfl,h0,h1⟩
theorem markIm_sk {P:Nat→Prop}(x:Im) (v0 v1:Value) (k:Int) (w:World) (h0:Sk P w (.list 1 (Bs.dats x.structs)) [v0]) (h1:Sk P w (.list 4 (Cd.dats x.codes)) [v1]) (h0':0≤k) (h1':k+16*x.sz≤4611686018427387904) :
  Calls Tryz.prog 13 #[.agg #[v0,v1,.int .i64 x.main],.int .i64 k] w (MkQ P w k (16*x.sz)):=by
 rw[Im.szEq]at h1' ⊢;obtain⟨a0,p0,rfl,_⟩:=h0.lslice;simp only[Bs.dats_len]at h0 ⊢;obtain⟨a1,p1,rfl,_⟩:=h1.lslice;simp only[Cd.dats_len]at h1 ⊢
 generalize x.main=z_main
 have I0:Inks P w (w.alloc (.cells #[.slice a0 x.structs.length p0,.slice a1 x.codes.length p1,.int .i64 z_main] 37)):=Inks.later (later1 _ _);go_enter Tryz.func13,Tryz.ntmps13;go_wp2_with fail
 refine (markBss_sk _ _ _ _ (h0.slice_inks I0) (by omega) (by omega)).mono ?_;rintro e w1 ⟨k1,rfl,u1,t1,J1⟩;have I1:=I0.trans J1;have b1_1:w1.cell? ⟨w.heap.size,1,none⟩=some (.slice a1 x.codes.length p1):=J1.slice (by simp) (by simp);go_wp2_with fail
 refine (markCds_sk _ _ _ _ (h1.slice_inks I1) (by omega) (by omega)).mono ?_;rintro e w2 ⟨k2,rfl,u2,t2,J2⟩;have I2:=I1.trans J2;go_wp2_with fail
 go_ret;exact⟨_,rfl,by omega,by omega,I2⟩
end Go.Proofs.YtjnpncefkigcbaaGreat
