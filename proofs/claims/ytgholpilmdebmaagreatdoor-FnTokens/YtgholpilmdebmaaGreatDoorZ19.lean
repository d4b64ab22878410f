import Derived.Test.YtgholpilmdebmaaGreatDoorZ01
import Derived.Test.YtgholpilmdebmaaGreatDoorZ17
import Derived.Test.YtgholpilmdebmaaGreatDoorZ18
set_option maxHeartbeats 100000000
set_option maxRecDepth 100000
namespace Go.Proofs.YtgholpilmdebmaaGreatDoor
open Go.RowKit
def Bytes (w:World) (a:Option Addr) (len:Nat):Prop :=
 (len:Int)≤9223372036854775807∧∀ j,j<len→∃ (bx off:Nat) (v:Int),a=some ⟨bx,off,none⟩∧bx<w.heap.size∧w.cell? ⟨bx,off+j,none⟩=some (.int .u8 v)∧0≤v∧v≤255
theorem build50 (a:Option Addr) (len cap:Nat) (h:Int) (w:World):(Instr.build 51 #[(0,.slice a len cap),(2,.int .i64 h)]).run Tryz.prog w=.ok (.agg #[.slice a len cap,.int .i64 0,.int .i64 h]) w:=run_build w 51 _ _ (by kernel_rfl)
theorem new_any (a:Option Addr) (len cap:Nat) (w:World) (hb:Bytes w a len) :
  Calls Tryz.prog 10 #[.slice a len cap] w fun e w'=>∃ h:Int,e=.returned (.pointer (some ⟨w.heap.size,0,none⟩))∧w'=w.alloc (.cells #[.slice a len cap,.int .i64 0,.int .i64 h] 51):=by
 have hbl:=build50;obtain⟨hl,hbs⟩:=hb;go_enter Tryz.func10,Tryz.ntmps10;go_wp2
 go_loop [3,4] (fun h i=>∃ (k:Nat) (z:Int),h=.int .i64 z∧i=.int .i64 (k:Int)∧k≤4000∧k≤len) (fun _ i=>len - (intOf i).toNat)
 case atStart=>exact⟨0,_,rfl,rfl,by decide,Nat.zero_le _⟩
 case round =>
  obtain⟨k,z,rfl,rfl,hk,hkl⟩:=hrel;by_cases hlt:k<len
  ·obtain⟨bx,off,v,rfl,hbx,hcv,hv0,hv1⟩:=hbs k hlt;have hlt':(k:Int)<(len:Int):=by omega
   by_cases h4:k<4000
   ·go_wp2
    go_round
    case rel=>exact⟨k+1,_,rfl,by go_num,by omega,by omega⟩
    case measure=>simp[intOf];omega
   ·go_wp2
    go_ret;exact⟨rfl,_,rfl⟩
  ·have hlt':decide ((k:Int)<(len:Int))=false:=by simp;omega
   go_wp2
   go_ret;exact⟨rfl,_,rfl⟩
theorem Bytes.later {w w':World}{a:Option Addr}{len:Nat}(h:Bytes w a len) (hb:Later w w'):Bytes w' a len:=by
 refine⟨h.1,fun j hj=>?_⟩;obtain⟨bx,off,v,e1,e2,e3,e4⟩:=h.2 j hj;exact⟨bx,off,v,e1,Nat.lt_of_lt_of_le e2 hb.size,by rw[Below.cell hb (p:=⟨bx,off+j,none⟩) e2];exact e3,e4⟩
theorem new_at {a:Option Addr}{len:Nat}(cap:Nat) {w:World}(hb:Bytes w a len) :
  Calls Tryz.prog 10 #[.slice a len cap] w fun e w'=>∃ K,e=.returned (.pointer (some ⟨K,0,none⟩))∧At w.heap.size K a len cap w' w'∧Later w w'∧w.heap.size≤K:=by
 refine (new_any a len cap w hb).mono ?_;rintro e w' ⟨h,rfl,rfl⟩;have hlat:Later w (w.alloc (.cells #[.slice a len cap,.int .i64 0,.int .i64 h] 51)):=(Below.refl _ _).alloc (Nat.le_refl _) _;refine⟨_,rfl,At.start ⟨?_,⟨0,?_,Int.le_refl _,by omega⟩,⟨h,?_⟩,?_,?_,Nat.le_refl _,by simp,hb.1,?_⟩,hlat,Nat.le_refl _⟩
 ·simp
 ·simp
 ·simp
 ·exact World.frozen?_alloc_new w _ _ _
 ·exact World.frozen?_alloc_new w _ _ _
 ·exact fun j hj=>by
   obtain⟨bx,off,v,e1,e2,e3,e4⟩:=hb.2 j hj;exact⟨bx,off,v,e1,e2,by rw[Below.cell hlat (p:=⟨bx,off+j,none⟩) e2];exact e3,e4⟩
theorem At.done {B K:Nat}{a:Option Addr}{len cap:Nat}{w w0 w':World}(h:At B K a len cap w0 w') (hl:Later w w0) (hK:w.heap.size≤K):Later w w' :=
 Below.trans hl (h.only.below hK hl.size)
end Go.Proofs.YtgholpilmdebmaaGreatDoor
namespace Go.Proofs.YtgholpilmdebmaaGreatDoor
open Go.RowKit Go.Maps
structure GS where
 S:Nat→Bool
 D:Nat→Prop
structure GS.Ok (g:GS) (w:World):Prop where
 s:∀ b,g.S b→b<w.heap.size
 d:∀ b,g.D b→b<w.heap.size
 a:∀ b,g.S b→¬ g.D b
structure Stp (g:GS) (w:World) (g':GS) (w':World):Prop where
 os:w'.os=w.os
 tape:w'.tape=w.tape
 output:w'.output=w.output
 size:w.heap.size≤w'.heap.size
 s:∀ b,g.S b→g'.S b
 d:∀ b,g.D b→g'.D b
 s':∀ b,b<w.heap.size→g'.S b→g.S b
 d':∀ b,b<w.heap.size→g'.D b→g.D b
 block:∀ b,b<w.heap.size→¬ g.D b→w'.heap[b]?=w.heap[b]?
theorem Stp.refl (g:GS) (w:World):Stp g w g w:=⟨rfl,rfl,rfl,Nat.le_refl _,fun _ h=>h,fun _ h=>h,fun _ _ h=>h,fun _ _ h=>h,fun _ _ _=>rfl⟩
theorem Stp.trans {g g1 g2:GS}{w w1 w2:World}(h:Stp g w g1 w1) (k:Stp g1 w1 g2 w2):Stp g w g2 w2 :=
 ⟨k.os.trans h.os,k.tape.trans h.tape,k.output.trans h.output,Nat.le_trans h.size k.size,fun b q=>k.s b (h.s b q),fun b q=>k.d b (h.d b q),fun b hb q=>h.s' b hb (k.s' b (Nat.lt_of_lt_of_le hb h.size) q),fun b hb q=>h.d' b hb (k.d' b (Nat.lt_of_lt_of_le hb h.size) q),fun b hb q=>by rw[k.block b (Nat.lt_of_lt_of_le hb h.size) (fun z=>q (h.d' b hb z))];exact h.block b hb q⟩
theorem Stp.later {g g1:GS}{w w1 w':World}(h:Stp g w g1 w1) (l:Later w1 w'):Stp g w g1 w' :=
 h.trans ⟨l.os,l.tape,l.output,l.size,fun _ q=>q,fun _ q=>q,fun _ _ q=>q,fun _ _ q=>q,fun b hb _=>l.block b hb⟩
theorem Stp.only {g g1:GS}{w w1 w':World}(h:Stp g w g1 w1) {b:Nat}(o:OnlyK b w1 w') (hb:w.heap.size≤b∨g1.D b):Stp g w g1 w':=by
 refine⟨o.os.trans h.os,o.tape.trans h.tape,o.output.trans h.output,Nat.le_trans h.size o.size,h.s,h.d,h.s',h.d',fun k hk q=>?_⟩;rw[o.block k (Nat.lt_of_lt_of_le hk h.size) (fun e=>?_)]
 ·exact h.block k hk q
 ·subst e;rcases hb with hb|hb
  ·omega
  ·exact q (h.d' _ hk hb)
theorem Stp.grow {g g1:GS}{w w1 w':World}(h:Stp g w g1 w1) {o:Option Nat}(k:w1.grownBy w' o) (hb:∀ b,o=some b→w.heap.size≤b∨g1.D b):Stp g w g1 w' :=
 ⟨k.os.trans h.os,k.tape.trans h.tape,k.output.trans h.output,Nat.le_trans h.size k.size,h.s,h.d,h.s',h.d',fun b hk q=>by
  rw[k.block b (Nat.lt_of_lt_of_le hk h.size) (fun e=>?_)]
  ·exact h.block b hk q
  ·rcases hb b e.symm with z|z
   ·omega
   ·exact q (h.d' _ hk z)⟩
def GS.seal (g:GS) (b:Nat):GS:=⟨fun x=>g.S x||decide (x=b),g.D⟩
def GS.dirt (g:GS) (b:Nat):GS:=⟨g.S,fun x=>g.D x∨x=b⟩
theorem GS.sealed (g:GS) (b x:Nat):(g.seal b).S x=true↔g.S x=true∨x=b:=by
 show (g.S x||decide (x=b))=true↔_;rw[Bool.or_eq_true,decide_eq_true_eq]
theorem Stp.seal {g g1:GS}{w w1:World}(h:Stp g w g1 w1) {b:Nat}(hb:w.heap.size≤b):Stp g w (g1.seal b) w1 :=
 ⟨h.os,h.tape,h.output,h.size,fun x q=>(g1.sealed b x).2 (.inl (h.s x q)),h.d,fun x hx q=>((g1.sealed b x).1 q).elim (h.s' x hx) (fun e=>by omega),h.d',h.block⟩
theorem Stp.dirt {g g1:GS}{w w1:World}(h:Stp g w g1 w1) {b:Nat}(hb:w.heap.size≤b):Stp g w (g1.dirt b) w1 :=
 ⟨h.os,h.tape,h.output,h.size,h.s,fun x q=>.inl (h.d x q),h.s',fun x hx q=>q.elim (h.d' x hx) (fun e=>by omega),h.block⟩
theorem GS.Ok.later {g:GS}{w w':World}(h:g.Ok w) (hs:w.heap.size≤w'.heap.size):g.Ok w':=⟨fun b q=>Nat.lt_of_lt_of_le (h.s b q) hs,fun b q=>Nat.lt_of_lt_of_le (h.d b q) hs,h.a⟩
theorem GS.Ok.seal {g:GS}{w:World}(h:g.Ok w) {b:Nat}(hb:b<w.heap.size) (hd:¬ g.D b):(g.seal b).Ok w :=
 ⟨fun x q=>((g.sealed b x).1 q).elim (h.s x) (fun e=>by omega),h.d,fun x q=>((g.sealed b x).1 q).elim (h.a x) (fun e=>e ▸ hd)⟩
theorem GS.Ok.dirt {g:GS}{w:World}(h:g.Ok w) {b:Nat}(hb:b<w.heap.size) (hd:¬ g.S b):(g.dirt b).Ok w :=
 ⟨h.s,fun x q=>q.elim (h.d x) (fun e=>by omega),fun x q z=>z.elim (h.a x q) (fun e=>hd (e ▸ q))⟩
def mask (g:GS) (w:World):World:={ w with heap:=w.heap.mapIdx fun i o=>if g.S i then o else .cells #[] 0 }
theorem zbo (g:GS) (w:World):(mask g w).heap.size=w.heap.size:=by
 show (w.heap.mapIdx _).size=_;simp
theorem zbk (g:GS) (w:World) (b:Nat) (h:g.S b):(mask g w).heap[b]?=w.heap[b]?:=by
 show (w.heap.mapIdx _)[b]?=_;rw[Array.getElem?_mapIdx]
 cases w.heap[b]? with
 | none=>rfl
 | some o=>show some (if g.S b=true then o else _)=some o;rw[if_pos h]
theorem zam {g:GS}{w:World}{a:Addr}{u:Value}(h:(mask g w).cell? a=some u):g.S a.block∧w.cell? a=some u:=by
 by_cases q:g.S a.block=true
 ·exact⟨q,by rw[←h];unfold World.cell?;rw[zbk g w _ q]⟩
 ·exfalso
  have e:(mask g w).heap[a.block]?=none∨(mask g w).heap[a.block]?=some (.cells #[] 0):=by
   show (w.heap.mapIdx _)[a.block]?=none∨(w.heap.mapIdx _)[a.block]?=_;rw[Array.getElem?_mapIdx]
   cases w.heap[a.block]? with
   | none=>exact .inl rfl
   | some o=>right;show some (if g.S a.block=true then o else _)=_;rw[if_neg q]
  unfold World.cell? at h;rcases e with e|e
  ·rw[e]at h
   cases h
  ·rw[e]at h
   revert h
   show (if a.spot.isSome=true then none else (#[]:Array Value)[a.off]?)=some u→False;split
   ·intro h;cases h
   ·simp
structure Ov (g:GS) (w:World) (g':GS) (w':World):Prop where
 size:w.heap.size≤w'.heap.size
 s:∀ b,g.S b→g'.S b
 b:∀ b,g.S b→w'.heap[b]?=w.heap[b]?
theorem Ov.refl (g:GS) (w:World):Ov g w g w:=⟨Nat.le_refl _,fun _ q=>q,fun _ _=>rfl⟩
theorem Ov.trans {g g1 g2:GS}{w w1 w2:World}(h:Ov g w g1 w1) (k:Ov g1 w1 g2 w2):Ov g w g2 w2:=⟨Nat.le_trans h.size k.size,fun b q=>k.s b (h.s b q),fun b q=>(k.b b (h.s b q)).trans (h.b b q)⟩
theorem Ov.stp {g g':GS}{w w':World}(ok:g.Ok w) (t:Stp g w g' w'):Ov g w g' w':=⟨t.size,t.s,fun b q=>t.block b (ok.s b q) (ok.a b q)⟩
theorem Ov.later {g:GS}{w w':World}(ok:g.Ok w) (l:Later w w'):Ov g w g w':=⟨l.size,fun _ q=>q,fun b q=>l.block b (ok.s b q)⟩
theorem Ov.only {g:GS}{w w':World}(ok:g.Ok w) {b:Nat}(o:OnlyK b w w') (hb:¬ g.S b):Ov g w g w':=⟨o.size,fun _ q=>q,fun x q=>o.block x (ok.s x q) fun e=>hb (e ▸ q)⟩
theorem Ov.grow {g:GS}{w w':World}(ok:g.Ok w) {o:Option Nat}(k:w.grownBy w' o) (hb:∀ b,o=some b→¬ g.S b):Ov g w g w':=⟨k.size,fun _ q=>q,fun x q=>k.block x (ok.s x q) fun e=>hb x e.symm q⟩
theorem Ov.seal (g:GS) (w:World) (b:Nat):Ov g w (g.seal b) w:=⟨Nat.le_refl _,fun x q=>(g.sealed b x).2 (.inl q),fun _ _=>rfl⟩
theorem Ov.cell {g g':GS}{w w':World}(h:Ov g w g' w') {a:Addr}{u:Value}(q:(mask g w).cell? a=some u):(mask g' w').cell? a=some u:=by
 obtain⟨q1,q2⟩:=zam q;rw[←q];unfold World.cell?;rw[zbk g' w' _ (h.s _ q1),zbk g w _ q1,h.b _ q1]
theorem Ov.real {g g':GS}{w w':World}(h:Ov g w g' w') {a:Addr}{u:Value}(q:(mask g w).cell? a=some u):w'.cell? a=some u:=(zam (h.cell q)).2
theorem Ov.sz {g g':GS}{w w':World}(h:Ov g w g' w'):(mask g w).heap.size≤(mask g' w').heap.size:=by rw[zbo,zbo];exact h.size
structure Sub (w w':World):Prop where
 size:w.heap.size≤w'.heap.size
 cell:∀ a u,w.cell? a=some u→w'.cell? a=some u
theorem Ov.sub {g g':GS}{w w':World}(h:Ov g w g' w'):Sub (mask g w) (mask g' w'):=⟨h.sz,fun _ _ q=>h.cell q⟩
theorem Ov.subw {g g':GS}{w w':World}(h:Ov g w g' w'):Sub (mask g w) w':=⟨by rw[zbo];exact h.size,fun _ _ q=>h.real q⟩
theorem RdN.sub {w w':World}{v:Value}{zs:List Int}(h:RdN w v zs) (hb:Sub w w'):RdN w' v zs:=by
 obtain⟨⟨a,cap,e,h1,h2,h3⟩,h4⟩:=h
 exact⟨⟨a,cap,e,h1,h2,fun j hj=>by
  obtain⟨g,off,e,hg,hc⟩:=h3 j hj
  exact⟨g,off,e,Nat.lt_of_lt_of_le hg hb.size,hb.cell _ _ hc⟩⟩,h4⟩
mutual
theorem RdD.sub {w w':World}(hb:Sub w w'):∀ (d:Dat) {cs:List Value},RdD w d cs→RdD w' d cs
 | .int n,cs,h=>by rw[RdD]at h ⊢;exact h
 | .bytes zs,cs,h=>by
  rw[RdD]at h ⊢;obtain⟨v,e,hr⟩:=h;exact⟨v,e,hr.sub hb⟩
 | .agg fs,cs,h=>by rw[RdD]at h ⊢;exact RdAgg.sub hb fs h
 | .list k l,cs,h=>by
  rw[RdD]at h ⊢;obtain⟨a,cap,e,hl,hr⟩:=h;exact⟨a,cap,e,hl,RdAll.sub hb l hr⟩
theorem RdAgg.sub {w w':World}(hb:Sub w w'):∀ (fs:List Dat) {cs:List Value},RdAgg w fs cs→RdAgg w' fs cs
 | [],cs,h=>by rw[RdAgg]at h ⊢;exact h
 | d::r,cs,h=>by
  rw[RdAgg]at h ⊢;obtain⟨c1,c2,e,h1,h2⟩:=h;exact⟨c1,c2,e,RdD.sub hb d h1,RdAgg.sub hb r h2⟩
theorem RdAll.sub {w w':World}(hb:Sub w w') {k:Nat}{a:Option Addr}:∀ (l:List Dat) {i:Nat},RdAll w k a i l→RdAll w' k a i l
 | [],i,_=>by rw[RdAll];trivial
 | d::r,i,h=>by
  rw[RdAll]at h ⊢;obtain⟨⟨g,off,cs,e,hg,hk,hc,hd⟩,hr⟩:=h;exact⟨⟨g,off,cs,e,Nat.lt_of_lt_of_le hg hb.size,hk,fun m u hm=>hb.cell _ _ (hc m u hm),RdD.sub hb d hd⟩,RdAll.sub hb r hr⟩
end
theorem RdL.sub {w w':World}(hb:Sub w w') {k:Nat}{v:Value}{l:List Dat}(h:RdL w k v l):RdL w' k v l:=by
 obtain⟨v',e,h'⟩:=RdL.iff.1 (RdD.sub hb (.list k l) (cs:=[v]) (RdL.iff.2 ⟨v,rfl,h⟩))
 cases e
 exact h'
def ElS (m:World) (k:Nat):List Dat→List Value→Prop
 | [],xs=>xs=[]
 | d::r,xs=>∃ cs ys,xs=cs++ys∧cs.length=k∧RdD m d cs∧ElS m k r ys
theorem ElS.sub {w w':World}(hb:Sub w w') {k:Nat}:∀ (l:List Dat) {xs:List Value},ElS w k l xs→ElS w' k l xs
 | [],_,h=>h
 | d::r,xs,h=>by
  obtain⟨cs,ys,e,hk,hd,hh⟩:=h;exact⟨cs,ys,e,hk,RdD.sub hb d hd,ElS.sub hb r hh⟩
theorem ElS.app {w:World}{k:Nat}{m:List Dat}{ys:List Value}(hm:ElS w k m ys):∀ (l:List Dat) {xs:List Value},ElS w k l xs→ElS w k (l++m) (xs++ys)
 | [],xs,h=>by
  obtain rfl:=(show xs=[] from h)
  exact hm
 | d::r,xs,h=>by
  obtain⟨cs,zs,rfl,hk,hd,hr⟩:=h;exact⟨cs,zs++ys,by rw[List.append_assoc],hk,hd,ElS.app hm r hr⟩
theorem ElS.one {w:World}{k:Nat}{d:Dat}{cs:List Value}(hk:cs.length=k) (hd:RdD w d cs):ElS w k [d] cs:=⟨cs,[],by simp,hk,hd,rfl⟩
theorem ElS.two {w:World}{k:Nat}{d e:Dat}{cs es:List Value}(hk:cs.length=k) (hk2:es.length=k) (hd:RdD w d cs) (he:RdD w e es):ElS w k [d,e] (cs++es):=ElS.app (ElS.one hk2 he) [d] (ElS.one hk hd)
theorem ElS.len {w:World}{k:Nat}:∀ (l:List Dat) {xs:List Value},ElS w k l xs→xs.length=l.length*k
 | [],xs,h=>by
  obtain rfl:=(show xs=[] from h)
  simp
 | d::r,xs,h=>by
  obtain⟨cs,ys,rfl,hk,_,hr⟩:=h;rw[List.length_append,hk,ElS.len r hr,List.length_cons,Nat.succ_mul,Nat.add_comm]
theorem ElS.at {w:World}{k:Nat}:∀ (l:List Dat) {xs:List Value},ElS w k l xs→∀ j (hj:j<l.length),∃ cs,cs.length=k∧(∀ m u,cs[m]?=some u→xs[j*k+m]?=some u)∧RdD w l[j] cs
 | d::r,xs,h,j,hj=>by
  obtain⟨cs,ys,rfl,hk,hd,hr⟩:=h
  cases j with
  | zero=>exact⟨cs,hk,fun m u q=>by rw[Nat.zero_mul,Nat.zero_add,List.getElem?_append_left (List.getElem?_eq_some_iff.1 q).1];exact q,hd⟩
  | succ j =>
   obtain⟨c2,hk2,hc2,hd2⟩:=ElS.at r hr j (by simpa using hj);exact⟨c2,hk2,fun m u q=>by rw[List.getElem?_append_right (by rw[Nat.succ_mul];omega),show (j+1)*k+m - cs.length=j*k+m by rw[Nat.succ_mul];omega];exact hc2 m u q,hd2⟩
theorem ElS.of {w:World}{k:Nat}:∀ (l:List Dat),(∀ j (hj:j<l.length),∃ cs,cs.length=k∧RdD w l[j] cs)→∃ xs,ElS w k l xs
 | [],_=>⟨[],rfl⟩
 | d::r,h=>by
  obtain⟨cs,hk,hd⟩:=h 0 (by simp);obtain⟨ys,hy⟩:=ElS.of r fun j hj=>h (j+1) (by simpa using hj);exact⟨cs++ys,cs,ys,rfl,hk,hd,hy⟩
theorem RdL.cells {w:World}{k:Nat}{v:Value}{l:List Dat}(h:RdL w k v l) (hl:0<l.length):∃ b o c xs,v=.slice (some ⟨b,o,none⟩) l.length c∧xs.length=l.length*k∧(∀ j u,xs[j]?=some u→w.cell? ⟨b,o+j,none⟩=some u)∧ElS w k l xs:=by
 obtain⟨a,c,rfl,_,he⟩:=h;obtain⟨b,o,cs0,rfl,_⟩:=he 0 hl
 have key:∀ i,i≤l.length→∃ xs:List Value,xs.length=i*k∧(∀ j u,xs[j]?=some u→w.cell? ⟨b,o+j,none⟩=some u)∧ElS w k (l.take i) xs:=by
  intro i
  induction i with
  | zero=>exact fun _=>⟨[],by simp,(fun j u q=>(by cases q)),rfl⟩
  | succ i ih =>
   intro hi;obtain⟨xs,hx,hc,hE⟩:=ih (by omega);obtain⟨b',o',cs,e,_,hk,hcs,hd⟩:=he i (by omega)
   cases e
   refine⟨xs++cs,by rw[List.length_append,hx,hk,Nat.succ_mul],fun j u q=>?_,?_⟩
   ·by_cases hj:j<xs.length
    ·rw[List.getElem?_append_left hj]at q;exact hc j u q
    ·rw[List.getElem?_append_right (by omega)]at q;have:=hcs _ u q;rw[show o+j=o+i*k+(j - xs.length) by omega];exact this
   ·rw[List.take_succ_eq_append_getElem (by omega)];exact ElS.app (ElS.one hk hd) _ hE
 obtain⟨xs,hx,hc,hE⟩:=key l.length (Nat.le_refl _);rw[List.take_length]at hE;exact⟨b,o,c,xs,rfl,hx,hc,hE⟩
structure Rw (g:GS) (w:World) (B:Nat) (t:TypeId) (k:Nat) (v:Value) (l:List Dat) (xs:List Value):Prop where
 row:w.ownsRow B t k v l.length xs
 el:ElS (mask g w) k l xs
 own:∀ b,v.ownBlock=some b→¬ g.S b∧¬ g.D b
theorem Rw.nil (g:GS) (w:World) (B:Nat) (t:TypeId) (k:Nat):Rw g w B t k (.slice none 0 0) [] []:=⟨World.ownsRow_nil _ _ _ _,rfl,fun b hb=>by cases hb⟩
theorem zay {w w':World}{B:Nat}{t:TypeId}{k:Nat}{v:Value}{n:Nat}{xs:List Value}(h:w.ownsRow B t k v n xs) (hb:∀ b,v.ownBlock=some b→w'.heap[b]?=w.heap[b]?):w'.ownsRow B t k v n xs:=by
 rcases h.2 with ⟨e1,e2⟩|⟨g,cap,cur,e1,h1,h2,h3⟩
 ·exact⟨h.1,.inl ⟨e1,e2⟩⟩
 ·exact⟨h.1,.inr ⟨g,cap,cur,e1,h1,by rw[hb g (by rw[e1];rfl)];exact h2,h3⟩⟩
theorem Rw.stp {g g':GS}{w w':World}{B:Nat}{t:TypeId}{k:Nat}{v:Value}{l:List Dat}{xs:List Value}(h:Rw g w B t k v l xs) (ok:g.Ok w) (q:Stp g w g' w'):Rw g' w' B t k v l xs :=
 ⟨zay h.row fun b e=>q.block b (h.row.lt b e).2 (h.own b e).2,ElS.sub (Ov.stp ok q).sub _ h.el,fun b e=>⟨fun z=>(h.own b e).1 (q.s' b (h.row.lt b e).2 z),fun z=>(h.own b e).2 (q.d' b (h.row.lt b e).2 z)⟩⟩
theorem Rw.later {g:GS}{w w':World}{B:Nat}{t:TypeId}{k:Nat}{v:Value}{l:List Dat}{xs:List Value}(h:Rw g w B t k v l xs) (ok:g.Ok w) (q:Later w w'):Rw g w' B t k v l xs:=h.stp ok ((Stp.refl g w).later q)
theorem Rw.only {g:GS}{w w':World}{B:Nat}{t:TypeId}{k:Nat}{v:Value}{l:List Dat}{xs:List Value}(h:Rw g w B t k v l xs) (ok:g.Ok w) {b:Nat}(o:OnlyK b w w') (hS:¬ g.S b) (hv:v.ownBlock≠some b):Rw g w' B t k v l xs :=
 ⟨zay h.row fun x e=>o.block x (h.row.lt x e).2 (fun z=>hv (z ▸ e)),ElS.sub (Ov.only ok o hS).sub _ h.el,h.own⟩
theorem Rw.grow {g:GS}{w w':World}{B:Nat}{t:TypeId}{k:Nat}{v:Value}{l:List Dat}{xs:List Value}(h:Rw g w B t k v l xs) (ok:g.Ok w) {o:Option Nat}(q:w.grownBy w' o) (hS:∀ b,o=some b→¬ g.S b) (hv:v.ownBlock=none∨v.ownBlock≠o):Rw g w' B t k v l xs :=
 ⟨h.row.kept q hv,ElS.sub (Ov.grow ok q hS).sub _ h.el,h.own⟩
theorem Rw.seal {g:GS}{w:World}{B:Nat}{t:TypeId}{k:Nat}{v:Value}{l:List Dat}{xs:List Value}(h:Rw g w B t k v l xs) (b:Nat) (hv:v.ownBlock≠some b):Rw (g.seal b) w B t k v l xs :=
 ⟨h.row,ElS.sub (Ov.seal g w b).sub _ h.el,fun x e=>⟨fun z=>((g.sealed b x).1 z).elim (h.own x e).1 (fun q=>hv (q ▸ e)),(h.own x e).2⟩⟩
theorem Rw.push {g:GS}{w w':World}{B:Nat}{t:TypeId}{k:Nat}{v v':Value}{l m:List Dat}{xs ys:List Value}(h:Rw g w B t k v l xs) (ok:g.Ok w) (hm:ElS (mask g w) k m ys) (ho:w'.ownsRow B t k v' (l.length+m.length) (xs++ys)) (hg:w.grownBy w' v.ownBlock) (hloc:v'.ownBlock=v.ownBlock∨v'.ownBlock=some w.heap.size):Rw g w' B t k v' (l++m) (xs++ys):=by
 have hS:∀ b,v.ownBlock=some b→¬ g.S b:=fun b e=>(h.own b e).1;refine⟨by rw[List.length_append];exact ho,ElS.sub (Ov.grow ok hg hS).sub _ (ElS.app hm _ h.el),fun b e=>?_⟩;rcases hloc with z|z
 ·rw[z]at e;exact h.own b e
 ·rw[z]at e;have e':w.heap.size=b:=by injection e
  exact⟨fun q=>by have:=ok.s b q;omega,fun q=>by have:=ok.d b q;omega⟩
theorem RdL.nil0 (m:World) (k:Nat):RdL m k (.slice none 0 0) []:=⟨none,0,rfl,⟨Nat.le_refl _,by unfold maxLen;omega⟩,fun j hj=>by cases hj⟩
theorem Rw.done {g:GS}{w:World}{B:Nat}{t:TypeId}{k:Nat}{v:Value}{l:List Dat}{xs:List Value}(h:Rw g w B t k v l xs):(v=.slice none 0 0∧RdL (mask g w) k v l)∨∃ b,v.ownBlock=some b∧B≤b∧b<w.heap.size∧¬ g.S b∧¬ g.D b∧RdL (mask (g.seal b) w) k v l:=by
 rcases h.row.2 with ⟨rfl,e⟩|⟨b,cap,cur,rfl,h1,h2,h3,h4,h5,h6⟩
 ·have hl:l=[]:=List.eq_nil_of_length_eq_zero e;subst hl;exact .inl ⟨rfl,RdL.nil0 _ _⟩
 ·have hlt:=(h.row.lt b rfl).2;refine .inr ⟨b,rfl,h1,hlt,(h.own b rfl).1,(h.own b rfl).2,_,cap,rfl,⟨h3,h4⟩,fun j hj=>?_⟩;obtain⟨cs,hk,hc,hd⟩:=ElS.at l h.el j hj;refine⟨b,0,cs,rfl,by rw[zbo];exact hlt,hk,fun m u q=>?_,RdD.sub (Ov.seal g w b).sub _ hd⟩;rw[Nat.zero_add];have hx:=hc m u q;have hj:=(List.getElem?_eq_some_iff.1 hx).1;unfold World.cell?;rw[zbk _ _ _ ((g.sealed b b).2 (.inr rfl))];have:=h.row.cellAt (j*k+m) (by rw[←h.row.1];exact hj);unfold World.cell? at this;rw[this];exact hx
theorem RdL.lit {g:GS}{w:World}{k:Nat}{b:Nat}{l:List Dat}{xs:List Value}(hb:Bxx w b xs) (hS:g.S b) (hl:l.length≤maxLen) (he:ElS (mask g w) k l xs):RdL (mask g w) k (.slice (some ⟨b,0,none⟩) l.length l.length) l:=by
 refine⟨_,l.length,rfl,⟨Nat.le_refl _,hl⟩,fun j hj=>?_⟩;obtain⟨cs,hk,hc,hd⟩:=ElS.at l he j hj;refine⟨b,0,cs,rfl,by rw[zbo];exact hb.lt,hk,fun m u q=>?_,hd⟩;rw[Nat.zero_add];unfold World.cell?;rw[zbk _ _ _ hS];exact (hb.cell _ u (hc m u q)).1
def NmS (m:World) (v:Value):Prop:=∃ zs,RdN m v zs
def KsS (m:World) (v:Value):Prop:=∃ l:List Ex,Ex.goods l∧RdL m 6 v (Ex.dats l)
def BoS (m:World) (v:Value):Prop:=∃ l:List St,St.goods l∧RdL m 8 v (St.dats l)
theorem NmS.slice {m:World}{v:Value}(h:NmS m v):∃ a n c,v=.slice a n c:=by
 obtain⟨zs,r⟩:=h;obtain⟨a,c,e,_⟩:=r.slice;exact⟨a,_,c,e⟩
theorem KsS.slice {m:World}{v:Value}(h:KsS m v):∃ a n c,v=.slice a n c:=by
 obtain⟨l,_,h⟩:=h;obtain⟨a,c,e,_⟩:=h.slice;exact⟨a,_,c,e⟩
theorem NmS.nil (m:World):NmS m (.slice none 0 0):=⟨[],⟨none,0,rfl,by simp,fun j=>by simp[isB],fun j hj=>by cases hj⟩,none,0,rfl,Nat.le_refl _,by unfold maxLen;omega⟩
theorem KsS.nil (m:World):KsS m (.slice none 0 0):=⟨[],trivial,by rw[Ex.dats];exact RdL.nil0 _ _⟩
theorem BoS.nil (m:World):BoS m (.slice none 0 0):=⟨[],trivial,by rw[St.dats];exact RdL.nil0 _ _⟩
theorem NmS.sub {m m':World}{v:Value}(h:NmS m v) (o:Sub m m'):NmS m' v:=by
 obtain⟨zs,r⟩:=h;exact⟨zs,r.sub o⟩
theorem KsS.sub {m m':World}{v:Value}(h:KsS m v) (o:Sub m m'):KsS m' v:=by
 obtain⟨l,g,r⟩:=h;exact⟨l,g,r.sub o⟩
theorem BoS.sub {m m':World}{v:Value}(h:BoS m v) (o:Sub m m'):BoS m' v:=by
 obtain⟨l,g,r⟩:=h;exact⟨l,g,r.sub o⟩
structure ExS (m:World) (k n tk tn:Int) (u0 u1:Value):Prop where
 nm:NmS m u0
 ks:KsS m u1
 n:InR n
structure StS (m:World) (k n tk tn:Int) (u0 u1 u2 u3:Value):Prop where
 nm:NmS m u0
 ks:KsS m u1
 bo:BoS m u2
 el:BoS m u3
 n:InR n
theorem ExS.rd {m:World}{k n tk tn:Int}{u0 u1:Value}(h:ExS m k n tk tn u0 u1):∃ x:Ex,x.good∧RdD m x.dat [.int .i64 k,.int .i64 n,.int .i64 tk,.int .i64 tn,u0,u1]:=by
 obtain⟨⟨zs,h0⟩,⟨l,hg,h1⟩,hn⟩:=h;exact⟨.mk k n tk tn zs l,by rw[Ex.good];exact⟨hn,hg⟩,Ex.unview (x:=.mk k n tk tn zs l) h0 h1⟩
theorem StS.rd {m:World}{k n tk tn:Int}{u0 u1 u2 u3:Value}(h:StS m k n tk tn u0 u1 u2 u3):∃ x:St,x.good∧RdD m x.dat [.int .i64 k,.int .i64 n,.int .i64 tk,.int .i64 tn,u0,u1,u2,u3]:=by
 obtain⟨⟨zs,h0⟩,⟨l,hg,h1⟩,⟨l2,hg2,h2⟩,⟨l3,hg3,h3⟩,hn⟩:=h;exact⟨.mk k n tk tn zs l l2 l3,by rw[St.good];exact⟨hn,hg,hg2,hg3⟩,St.unview (x:=.mk k n tk tn zs l l2 l3) h0 h1 h2 h3⟩
theorem ExS.sub {m m':World}{k n tk tn:Int}{u0 u1:Value}(h:ExS m k n tk tn u0 u1) (o:Sub m m'):ExS m' k n tk tn u0 u1:=⟨h.nm.sub o,h.ks.sub o,h.n⟩
theorem StS.sub {m m':World}{k n tk tn:Int}{u0 u1 u2 u3:Value}(h:StS m k n tk tn u0 u1 u2 u3) (o:Sub m m'):StS m' k n tk tn u0 u1 u2 u3:=⟨h.nm.sub o,h.ks.sub o,h.bo.sub o,h.el.sub o,h.n⟩
theorem KsS.one {g:GS}{w:World}{b:Nat}{k n tk tn:Int}{u0 u1:Value}(hb:Bxx w b [.int .i64 k,.int .i64 n,.int .i64 tk,.int .i64 tn,u0,u1]) (hS:g.S b) (h:ExS (mask g w) k n tk tn u0 u1):KsS (mask g w) (.slice (some ⟨b,0,none⟩) 1 1):=by
 obtain⟨x,hx,hr⟩:=h.rd;exact⟨[x],⟨hx,trivial⟩,by rw[Ex.dats,Ex.dats];exact RdL.lit (l:=[x.dat]) hb hS (by unfold maxLen;simp) (ElS.one rfl hr)⟩
theorem KsS.two {g:GS}{w:World}{b:Nat}{k n tk tn k' n' tk' tn':Int}{u0 u1 u0' u1':Value}(hb:Bxx w b [.int .i64 k,.int .i64 n,.int .i64 tk,.int .i64 tn,u0,u1,.int .i64 k',.int .i64 n',.int .i64 tk',.int .i64 tn',u0',u1']) (hS:g.S b) (h:ExS (mask g w) k n tk tn u0 u1) (h':ExS (mask g w) k' n' tk' tn' u0' u1'):KsS (mask g w) (.slice (some ⟨b,0,none⟩) 2 2):=by
 obtain⟨x,hx,hr⟩:=h.rd;obtain⟨y,hy,hs⟩:=h'.rd;have hh:=ElS.two (k:=6) rfl rfl hr hs;exact⟨[x,y],⟨hx,hy,trivial⟩,by rw[Ex.dats,Ex.dats,Ex.dats];exact RdL.lit (l:=[x.dat,y.dat]) hb hS (by unfold maxLen;simp) hh⟩
theorem BoS.one {g:GS}{w:World}{b:Nat}{k n tk tn:Int}{u0 u1 u2 u3:Value}(hb:Bxx w b [.int .i64 k,.int .i64 n,.int .i64 tk,.int .i64 tn,u0,u1,u2,u3]) (hS:g.S b) (h:StS (mask g w) k n tk tn u0 u1 u2 u3):BoS (mask g w) (.slice (some ⟨b,0,none⟩) 1 1):=by
 obtain⟨x,hx,hr⟩:=h.rd;exact⟨[x],⟨hx,trivial⟩,by rw[St.dats,St.dats];exact RdL.lit (l:=[x.dat]) hb hS (by unfold maxLen;simp) (ElS.one rfl hr)⟩
end Go.Proofs.YtgholpilmdebmaaGreatDoor
