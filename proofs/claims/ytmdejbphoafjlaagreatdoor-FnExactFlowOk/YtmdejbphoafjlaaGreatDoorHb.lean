import Derived.Test.YtmdejbphoafjlaaGreatDoorGc
set_option maxHeartbeats 100000000
set_option maxRecDepth 100000
namespace Go.Proofs.YtmdejbphoafjlaaGreatDoor
open Go.RowKit
structure OnlyF (F:List Nat) (w w':World):Prop where
 os:w'.os=w.os
 tape:w'.tape=w.tape
 output:w'.output=w.output
 size:w.heap.size≤w'.heap.size
 block:∀ b,b<w.heap.size→b∉F→w'.heap[b]?=w.heap[b]?
theorem OnlyF.refl (F:List Nat) (w:World):OnlyF F w w:=⟨rfl,rfl,rfl,Nat.le_refl _,fun _ _ _=>rfl⟩
theorem OnlyF.trans {F:List Nat}{a b c:World}(h:OnlyF F a b) (k:OnlyF F b c):OnlyF F a c:=⟨k.os.trans h.os,k.tape.trans h.tape,k.output.trans h.output,Nat.le_trans h.size k.size,fun x hx hn=>by rw[k.block x (Nat.lt_of_lt_of_le hx h.size) hn,h.block x hx hn]⟩
theorem OnlyF.mono {F G:List Nat}{a b:World}(h:OnlyF F a b) (hs:∀ x∈F,x∈G):OnlyF G a b:=⟨h.os,h.tape,h.output,h.size,fun x hx hn=>h.block x hx (fun q=>hn (hs x q))⟩
theorem OnlyF.set {F:List Nat}{a b:World}(h:OnlyF F a b) {g o:Nat}(v:Value) (hg:g∈F):OnlyF F a (b.setCell ⟨g,o,none⟩ v):=⟨h.os,h.tape,h.output,by rw[World.size_setCell];exact h.size,fun x hx hn=>by
 rw[Below.heap_setCell _ _ _ _ (fun e=>hn (by rw[e];exact hg))]
 exact h.block x hx hn⟩
theorem OwnD_bytes_lt {w:World}{zs:List Int}{cs:List Value}{F:List Nat}(h:OwnD w (.bytes zs) cs F):∀ b∈F,b<w.heap.size:=by
 rw[OwnD]at h
 obtain⟨a,cap,_,_,_,h1,h0⟩:=h
 rcases Nat.eq_zero_or_pos zs.length with q|q
 ·rw[h0 q];intro b hb;cases hb
 ·obtain⟨g,_,rfl,hg,_⟩:=h1 q
  intro b hb
  rw[List.mem_singleton.1 hb]
  exact hg
mutual
theorem OwnD.lt {w:World}:∀ (d:Dat) {cs:List Value}{F:List Nat},OwnD w d cs F→∀ b∈F,b<w.heap.size
 | .int n,cs,F,h=>by rw[OwnD]at h;rw[h.2];intro b hb;cases hb
 | .bytes zs,cs,F,h=>OwnD_bytes_lt h
 | .agg fs,cs,F,h=>by rw[OwnD]at h;exact OwnAgg.lt fs h
 | .list k l,cs,F,h=>by
  rw[OwnD]at h
  obtain⟨a,cap,_,_,h1,h0⟩:=h
  rcases Nat.eq_zero_or_pos l.length with q|q
  ·rw[h0 q];intro b hb;cases hb
  ·obtain⟨g,F',_,rfl,hg,hh⟩:=h1 q
   intro b hb
   rcases List.mem_cons.1 hb with rfl|hb
   ·exact hg
   ·exact OwnAll.lt l hh b hb
theorem OwnAgg.lt {w:World}:∀ (fs:List Dat) {cs:List Value}{F:List Nat},OwnAgg w fs cs F→∀ b∈F,b<w.heap.size
 | [],cs,F,h=>by rw[OwnAgg]at h;rw[h.2];intro b hb;cases hb
 | d::r,cs,F,h=>by
  rw[OwnAgg]at h
  obtain⟨c1,c2,F1,F2,_,rfl,h1,h2⟩:=h
  intro b hb
  rcases List.mem_append.1 hb with hb|hb
  ·exact OwnD.lt d h1 b hb
  ·exact OwnAgg.lt r h2 b hb
theorem OwnAll.lt {w:World}{k g:Nat}:∀ (l:List Dat) {i:Nat}{F:List Nat},OwnAll w k g i l F→∀ b∈F,b<w.heap.size
 | [],i,F,h=>by rw[OwnAll]at h;rw[h];intro b hb;cases hb
 | d::r,i,F,h=>by
  rw[OwnAll]at h
  obtain⟨cs,F1,F2,rfl,_,_,hd,hr⟩:=h
  intro b hb
  rcases List.mem_append.1 hb with hb|hb
  ·exact OwnD.lt d hd b hb
  ·exact OwnAll.lt r hr b hb
end
theorem OwnD.only {w w':World}{d:Dat}{cs:List Value}{F G:List Nat}(h:OwnD w d cs F) (o:OnlyF G w w') (hd:∀ b∈F,b∉G):OwnD w' d cs F:=OwnD.agree o.size d h (fun b hb=>o.block b (OwnD.lt d h b hb) (hd b hb))
theorem Ex.ownView {w:World}{x:Ex}{cs:List Value}{F:List Nat}(h:OwnD w x.dat cs F):∃ v0 v1 G0 G1,cs=[.int .i64 x.kind,.int .i64 x.n,.int .i64 x.tk,.int .i64 x.tn,v0,v1]∧F=G0++G1∧OwnD w (.bytes x.name) [v0] G0∧OwnD w (.list 6 (Ex.dats x.kids)) [v1] G1:=by
 obtain⟨kind,n,tk,tn,name,kids⟩:=x
 rw[Ex.dat,OwnD]at h
 rw[OwnAgg]at h
 obtain⟨c0,r0,F0,E0,rfl,rfl,h0,h⟩:=h
 rw[OwnAgg]at h
 obtain⟨c1,r1,F1,E1,rfl,rfl,h1,h⟩:=h
 rw[OwnAgg]at h
 obtain⟨c2,r2,F2,E2,rfl,rfl,h2,h⟩:=h
 rw[OwnAgg]at h
 obtain⟨c3,r3,F3,E3,rfl,rfl,h3,h⟩:=h
 rw[OwnAgg]at h
 obtain⟨c4,r4,F4,E4,rfl,rfl,h4,h⟩:=h
 rw[OwnAgg]at h
 obtain⟨c5,r5,F5,E5,rfl,rfl,h5,h⟩:=h
 rw[OwnAgg]at h
 obtain⟨rfl,rfl⟩:=h
 rw[OwnD]at h0
 obtain⟨rfl,rfl⟩:=h0
 rw[OwnD]at h1
 obtain⟨rfl,rfl⟩:=h1
 rw[OwnD]at h2
 obtain⟨rfl,rfl⟩:=h2
 rw[OwnD]at h3
 obtain⟨rfl,rfl⟩:=h3
 have k4:=h4
 rw[OwnD]at k4
 obtain⟨a4,p4,rfl,_⟩:=k4
 have k5:=h5
 rw[OwnD]at k5
 obtain⟨a5,p5,rfl,_⟩:=k5
 exact⟨_,_,F4,F5,rfl,by simp,h4,h5⟩
theorem St.ownView {w:World}{x:St}{cs:List Value}{F:List Nat}(h:OwnD w x.dat cs F):∃ v0 v1 v2 v3 G0 G1 G2 G3,cs=[.int .i64 x.kind,.int .i64 x.n,.int .i64 x.tk,.int .i64 x.tn,v0,v1,v2,v3]∧F=G0++G1++G2++G3∧OwnD w (.bytes x.name) [v0] G0∧OwnD w (.list 6 (Ex.dats x.kids)) [v1] G1∧OwnD w (.list 8 (St.dats x.body)) [v2] G2∧OwnD w (.list 8 (St.dats x.els)) [v3] G3:=by
 obtain⟨kind,n,tk,tn,name,kids,body,els⟩:=x
 rw[St.dat,OwnD]at h
 rw[OwnAgg]at h
 obtain⟨c0,r0,F0,E0,rfl,rfl,h0,h⟩:=h
 rw[OwnAgg]at h
 obtain⟨c1,r1,F1,E1,rfl,rfl,h1,h⟩:=h
 rw[OwnAgg]at h
 obtain⟨c2,r2,F2,E2,rfl,rfl,h2,h⟩:=h
 rw[OwnAgg]at h
 obtain⟨c3,r3,F3,E3,rfl,rfl,h3,h⟩:=h
 rw[OwnAgg]at h
 obtain⟨c4,r4,F4,E4,rfl,rfl,h4,h⟩:=h
 rw[OwnAgg]at h
 obtain⟨c5,r5,F5,E5,rfl,rfl,h5,h⟩:=h
 rw[OwnAgg]at h
 obtain⟨c6,r6,F6,E6,rfl,rfl,h6,h⟩:=h
 rw[OwnAgg]at h
 obtain⟨c7,r7,F7,E7,rfl,rfl,h7,h⟩:=h
 rw[OwnAgg]at h
 obtain⟨rfl,rfl⟩:=h
 rw[OwnD]at h0
 obtain⟨rfl,rfl⟩:=h0
 rw[OwnD]at h1
 obtain⟨rfl,rfl⟩:=h1
 rw[OwnD]at h2
 obtain⟨rfl,rfl⟩:=h2
 rw[OwnD]at h3
 obtain⟨rfl,rfl⟩:=h3
 have k4:=h4
 rw[OwnD]at k4
 obtain⟨a4,p4,rfl,_⟩:=k4
 have k5:=h5
 rw[OwnD]at k5
 obtain⟨a5,p5,rfl,_⟩:=k5
 have k6:=h6
 rw[OwnD]at k6
 obtain⟨a6,p6,rfl,_⟩:=k6
 have k7:=h7
 rw[OwnD]at k7
 obtain⟨a7,p7,rfl,_⟩:=k7
 exact⟨_,_,_,_,F4,F5,F6,F7,rfl,by simp,h4,h5,h6,h7⟩
theorem Fu.ownView {w:World}{x:Fu}{cs:List Value}{F:List Nat}(h:OwnD w x.dat cs F):∃ v0 v1 v2 G0 G1 G2,cs=[v0,v1,.int .i64 x.rk,.int .i64 x.rn,v2]∧F=G0++G1++G2∧OwnD w (.bytes x.name) [v0] G0∧OwnD w (.list 3 (Pa.dats x.params)) [v1] G1∧OwnD w (.list 8 (St.dats x.body)) [v2] G2:=by
 obtain⟨name,params,rk,rn,body⟩:=x
 rw[Fu.dat,OwnD]at h
 rw[OwnAgg]at h
 obtain⟨c0,r0,F0,E0,rfl,rfl,h0,h⟩:=h
 rw[OwnAgg]at h
 obtain⟨c1,r1,F1,E1,rfl,rfl,h1,h⟩:=h
 rw[OwnAgg]at h
 obtain⟨c2,r2,F2,E2,rfl,rfl,h2,h⟩:=h
 rw[OwnAgg]at h
 obtain⟨c3,r3,F3,E3,rfl,rfl,h3,h⟩:=h
 rw[OwnAgg]at h
 obtain⟨c4,r4,F4,E4,rfl,rfl,h4,h⟩:=h
 rw[OwnAgg]at h
 obtain⟨rfl,rfl⟩:=h
 have k0:=h0
 rw[OwnD]at k0
 obtain⟨a0,p0,rfl,_⟩:=k0
 have k1:=h1
 rw[OwnD]at k1
 obtain⟨a1,p1,rfl,_⟩:=k1
 rw[OwnD]at h2
 obtain⟨rfl,rfl⟩:=h2
 rw[OwnD]at h3
 obtain⟨rfl,rfl⟩:=h3
 have k4:=h4
 rw[OwnD]at k4
 obtain⟨a4,p4,rfl,_⟩:=k4
 exact⟨_,_,_,F0,F1,F4,rfl,by simp,h0,h1,h4⟩
end Go.Proofs.YtmdejbphoafjlaaGreatDoor
