/- My texts D1, D2, K1, T1, T2 in one. -/
import Derived.Test.YtmdejbphoafjlaaGreatDoorProg
import Derived.WalkKit
import Derived.WalkSpells
import Derived.WalkLawsBesides
import Derived.Deep.QuietTactic
import Derived.BigQuiet
set_option maxHeartbeats 100000000
set_option maxRecDepth 100000
namespace Go.Proofs.YtmdejbphoafjlaaGreatDoor
open Go.RowKit
def Later (w w':World):Prop:=Below w.heap.size w w'
theorem Later.refl (w:World):Later w w:=Below.refl _ _
theorem Later.drew (w:World):Later w w.drew:=(Below.refl _ _).drew
theorem Later.trans {a b c:World}(h:Later a b) (k:Later b c):Later a c:=Below.trans h (Below.mono k h.size)
theorem ret_int {k:IntKind}{a b:Int}(h:a=b):Ending.returned (.int k a)=.returned (.int k b):=by rw[h]
structure OnlyK (K:Nat) (w w':World):Prop where
 os:w'.os=w.os
 tape:w'.tape=w.tape
 output:w'.output=w.output
 size:w.heap.size≤w'.heap.size
 block:∀ k,k<w.heap.size→k≠K→w'.heap[k]?=w.heap[k]?
theorem OnlyK.refl (K:Nat) (w:World):OnlyK K w w:=⟨rfl,rfl,rfl,Nat.le_refl _,fun _ _ _=>rfl⟩
theorem OnlyK.trans {K:Nat}{a b c:World}(h:OnlyK K a b) (k:OnlyK K b c):OnlyK K a c :=
 ⟨k.os.trans h.os,k.tape.trans h.tape,k.output.trans h.output,Nat.le_trans h.size k.size,fun i hi hn=>(k.block i (Nat.lt_of_lt_of_le hi h.size) hn).trans (h.block i hi hn)⟩
theorem OnlyK.drewN {K:Nat}{a w:World}(h:OnlyK K a w) (n:Nat):OnlyK K a (w.drewN n):=h.trans ⟨rfl,rfl,rfl,Nat.le_refl _,fun _ _ _=>rfl⟩
theorem OnlyK.set {K:Nat}{a w:World}(h:OnlyK K a w) (o:Nat) (u:Value):OnlyK K a (w.setCell ⟨K,o,none⟩ u) :=
 h.trans ⟨rfl,rfl,rfl,by simp[World.setCell],fun k _ hn=>Below.heap_setCell _ _ _ _ hn⟩
theorem OnlyK.alloc {K:Nat}{a w:World}(h:OnlyK K a w) (o:Obj):OnlyK K a (w.alloc o) :=
 h.trans ⟨rfl,rfl,rfl,by simp,fun _ hk _=>Below.heap_alloc _ _ _ hk⟩
theorem OnlyK.below {K B:Nat}{w w':World}(h:OnlyK K w w') (hB:B≤K) (hs:B≤w.heap.size):Below B w w' :=
 ⟨h.os,h.tape,h.output,h.size,fun k hk=>h.block k (by omega) (by omega)⟩
theorem OnlyK.later {K B:Nat}{w w':World}(h:Below B w w') (hB:w.heap.size≤B):OnlyK K w w' :=
 ⟨h.os,h.tape,h.output,h.size,fun k hk _=>h.block k (by omega)⟩
theorem ne_of_off {K o o':Nat}(h:o≠o'):(⟨K,o,none⟩:Addr)≠⟨K,o',none⟩:=by intro e;cases e;exact h rfl
theorem ne_of_block {b K o o':Nat}(h:b≠K):(⟨K,o,none⟩:Addr)≠⟨b,o',none⟩:=by intro e;cases e;exact h rfl
theorem set_same {w:World}{a:Addr}{u v:Value}(h:w.cell? a=some u):(w.setCell a v).cell? a=some v:=World.cell?_setCell_same' w a v (by rw[h];rfl)
theorem set_off (w:World) (K:Nat) {o o':Nat}(v:Value) (h:o≠o'):(w.setCell ⟨K,o,none⟩ v).cell? ⟨K,o',none⟩=w.cell? ⟨K,o',none⟩:=by
 apply World.cell?_setCell_other;exact ne_of_off h
def InR (v:Int):Prop:=-9223372036854775808≤v∧v≤9223372036854775807
theorem later2 (w:World) (o o':Obj):Later w ((w.alloc o).alloc o'):=((Below.refl _ _).alloc (Nat.le_refl _) _).alloc (by simp) _
theorem later1 (w:World) (o:Obj):Later w (w.alloc o):=(Below.refl _ _).alloc (Nat.le_refl _) _
theorem later_drewN {w w':World}(h:Later w w') (n:Nat):Later w (w'.drewN n):=below_drewN h n
theorem ret_bool {a b:Bool}(h:a=b):Ending.returned (.bool a)=.returned (.bool b):=by rw[h]
theorem eq_of_getD {xs ys:List Int}(hl:xs.length=ys.length) (h:∀ j,j<xs.length→xs.getD j 0=ys.getD j 0):xs=ys:=by
 apply List.ext_getElem hl
 intro j h1 h2
 have:=h j h1
 rwa [List.getD_eq_getElem?_getD,List.getD_eq_getElem?_getD,List.getElem?_eq_getElem h1,List.getElem?_eq_getElem h2]at this
def isB (z:Int):Prop:=0≤z∧z≤255
def RdB (w:World) (v:Value) (zs:List Int):Prop :=
 ∃ a cap,v=.slice a zs.length cap∧(zs.length:Int)≤9223372036854775807∧(∀ j,isB (zs.getD j 0)) ∧
  ∀ j,j<zs.length→∃ g off,a=some ⟨g,off,none⟩∧g<w.heap.size∧w.cell? ⟨g,off+j,none⟩=some (.int .u8 (zs.getD j 0))
theorem RdB.later {w w':World}{v:Value}{zs:List Int}(h:RdB w v zs) (hb:Later w w'):RdB w' v zs:=by
 obtain⟨a,cap,rfl,hl,hz,hc⟩:=h
 refine⟨a,cap,rfl,hl,hz,fun j hj=>?_⟩
 obtain⟨g,off,rfl,hg,hv⟩:=hc j hj
 exact⟨g,off,rfl,Nat.lt_of_lt_of_le hg hb.size,by rw[Below.cell hb (p:=⟨g,off+j,none⟩) hg];exact hv⟩
theorem RdB.nil (w:World):RdB w (.slice none 0 0) []:=⟨none,0,rfl,by decide,fun _=>⟨by simp,by simp⟩,fun j hj=>absurd hj (Nat.not_lt_zero _)⟩
theorem eqb_any (v1 v2:Value) (xs ys:List Int) (w:World) (h1:RdB w v1 xs) (h2:RdB w v2 ys) :
  Calls Tryz.prog 110 #[v1,v2] w fun e w'=>e=.returned (.bool (decide (xs=ys)))∧∃ n,w'=w.drewN n:=by
 obtain⟨a,cap,rfl,hl,_,hc⟩:=h1
 obtain⟨a',cap',rfl,hl',_,hc'⟩:=h2
 by_cases hlen:xs.length=ys.length
 ·have hle:((xs.length:Int) != (ys.length:Int))=false:=by simp[hlen]
  go_enter Tryz.func110,Tryz.ntmps110
  go_wp2
  go_loopw [5] (fun i wr=>∃ (k n:Nat),i=.int .i64 (k:Int)∧k≤xs.length∧wr=w.drewN n∧Hid (∀ j,j<k→xs.getD j 0=ys.getD j 0)) (fun i _=>xs.length - (intOf i).toNat)
  case atStart=>exact⟨0,0,rfl,Nat.zero_le _,rfl,fun j hj=>absurd hj (Nat.not_lt_zero _)⟩
  case round =>
   obtain⟨k,n,rfl,hk,rfl,hall⟩:=hrel
   by_cases hlt:k<xs.length
   ·obtain⟨g,off,rfl,_,hv⟩:=hc k hlt
    obtain⟨g',off',rfl,_,hv'⟩:=hc' k (by omega)
    have i1:(k:Int)<(xs.length:Int):=by omega
    have i2:(k:Int)<(ys.length:Int):=by omega
    generalize hz:xs.getD k 0=z at hv
    generalize hz':ys.getD k 0=z' at hv'
    have HZ:Hid (xs.getD k 0=z):=hz
    have HZ':Hid (ys.getD k 0=z'):=hz'
    clear hz hz' hc hc'
    by_cases he:z=z'
    ·have hne:(z != z')=false:=by simp[he]
     go_wp2
     go_quiet (fail)
     go_wp2
     go_roundw
     case rel=>exact⟨k+1,_,by go_num,by omega,rfl,fun j hj=>by
       rcases Nat.lt_or_ge j k with a|a
       ·exact hall.out j a
       ·have:j=k:=by omega
        rw[this,HZ.out,HZ'.out,he]⟩
     case measure=>simp[intOf];omega
    ·have hne:(z != z')=true:=by simp[he]
     go_wp2
     go_quiet (fail)
     go_wp2
     go_ret
     exact⟨ret_bool (decide_eq_false (fun h=>he (by rw[←HZ.out,← HZ'.out,h]))).symm,_,World.drewN_drewN _ _ _⟩
   ·have hlt':decide ((k:Int)<(xs.length:Int))=false:=by simp;omega
    go_wp2
    go_ret
    exact⟨ret_bool (decide_eq_true (eq_of_getD hlen (fun j hj=>hall.out j (by omega)))).symm,_,rfl⟩
 ·have hle:((xs.length:Int) != (ys.length:Int))=true:=by simp;omega
  go_enter Tryz.func110,Tryz.ntmps110
  go_wp2
  go_ret
  exact⟨ret_bool (decide_eq_false (fun h=>hlen (by rw[h]))).symm,0,rfl⟩
theorem eqb_b {v1 v2:Value}{xs ys:List Int}{b:Bool}(hb:Hid (decide (xs=ys)=b)) {w:World}(h1:RdB w v1 xs) (h2:RdB w v2 ys) :
  Calls Tryz.prog 110 #[v1,v2] w fun e w'=>e=.returned (.bool b)∧Later w w':=by
 refine (eqb_any v1 v2 xs ys w h1 h2).mono ?_
 rw[hb.out]
 rintro e w' ⟨rfl,n,rfl⟩
 exact⟨rfl,later_drewN (Later.refl _) _⟩
theorem Tryz.info5:(Tryz.prog.info? 5).map (fun i=>(i.zero,i.size,i.bytes))=some (some (.int .u8 0),1,1):=by kernel_rfl
theorem copyb_step {zs:List Int}{j:Nat}(h:j<zs.length):((zs.take j).map (Value.int .u8)++List.replicate (zs.length - j) (Value.int .u8 0)).set j (.int .u8 (zs.getD j 0))=(zs.take (j+1)).map (Value.int .u8)++List.replicate (zs.length - (j+1)) (.int .u8 0):=by
 have hl:((zs.take j).map (Value.int .u8)).length=j:=by simp;omega
 rw[List.set_append_right _ _ (by rw[hl];omega),hl,Nat.sub_self,List.take_succ_eq_append_getElem h,List.map_append,List.append_assoc]
 congr 1
 rw[show zs.length - j=(zs.length - (j+1))+1 by omega,List.replicate_succ]
 rw[List.getD_eq_getElem?_getD,List.getElem?_eq_getElem h]
 rfl
theorem tob_any (v:Value) (zs:List Int) (w:World) (hs:zs.length≤1048576) (h:RdB w v zs) :
  Calls Tryz.prog 100 #[v] w fun e w'=>e=.returned (.slice (some ⟨w.heap.size,0,none⟩) zs.length zs.length)∧w'.ownsRow w.heap.size 5 1 (.slice (some ⟨w.heap.size,0,none⟩) zs.length zs.length) zs.length (zs.map (Value.int .u8))∧Later w w':=by
 obtain⟨a,cap,rfl,hl,_,hc⟩:=h
 obtain⟨i0,hi,hz0,hz1,hz2⟩:=info_parts Tryz.info5
 go_enter Tryz.func100,Tryz.ntmps100
 go_wp2_with (at_make;refine wpList_make_full _ rfl _ _ 41 rfl w.heap.size 5 i0 (.int .u8 0) 1 Tryz.underlying41 hi hz0 hz1 .i64 .i64 _ _ zs.length rfl rfl rfl rfl (by rw[hz2];omega) (by unfold maxLen;omega) (Nat.le_refl _) ?_;intro w1 hown hgr)
 have hown0:w1.ownsRow w.heap.size 5 1 (.slice (some ⟨w.heap.size,0,none⟩) zs.length zs.length) zs.length (List.replicate zs.length (Value.int .u8 0)):=by
  have e:(madeCells (Value.int .u8 0).cells (zs.length*1)).toList=List.replicate zs.length (Value.int .u8 0):=by rw[Nat.mul_one];exact toList_madeCells_one _ _
  rw[←e];exact hown
 have hlat1:Later w w1:=(Below.refl _ _).grown hgr (Nat.le_refl _) (fun k h=>by cases h)
 clear hown hgr hi hz0 hz1 hz2
 go_loopw [4] (fun i wr=>∃ j:Nat,i=.int .i64 (j:Int)∧j≤zs.length∧wr.ownsRow w.heap.size 5 1 (.slice (some ⟨w.heap.size,0,none⟩) zs.length zs.length) zs.length ((zs.take j).map (Value.int .u8)++List.replicate (zs.length - j) (Value.int .u8 0))∧Later w wr) (fun i _=>zs.length - (intOf i).toNat)
 case atStart=>exact⟨0,rfl,Nat.zero_le _,by simpa using hown0,hlat1⟩
 case round =>
  obtain⟨j,rfl,hj,hown,hlat⟩:=hrel
  by_cases hlt:j<zs.length
  ·obtain⟨g,off,rfl,hg,hv⟩:=hc j hlt
   have hi:(j:Int)<(zs.length:Int):=by omega
   have hvr:wr.cell? ⟨g,off+j,none⟩=some (.int .u8 (zs.getD j 0)):=by rw[Below.cell hlat (p:=⟨g,off+j,none⟩) hg];exact hv
   have hst:=hown.stored j (.int .u8 (zs.getD j 0))
   rw[copyb_step hlt]at hst
   obtain⟨hs1,hs2⟩:=hst
   have hcell:wr.cell? ⟨w.heap.size,j,none⟩=some (.int .u8 0):=by
    rw[hown.cellAt j (by omega),List.getElem?_append_right (by rw[List.length_map,List.length_take];omega),List.length_map,List.length_take,Nat.min_eq_left (by omega),Nat.sub_self,List.getElem?_replicate,if_pos (by omega)]
   have hfr:=hown.frozenAt j
   generalize zs.getD j 0=z at *
   have hlat2:Later w (wr.setCell ⟨w.heap.size,j,none⟩ (.int .u8 z)):=Below.setCell hlat (Nat.le_refl _) _
   clear hown hown0 hv hc hs2
   go_wp2
   go_roundw
   case rel=>exact⟨j+1,by go_num,by omega,hs1,hlat2⟩
   case measure=>simp[intOf];omega
  ·have hlt':decide ((j:Int)<(zs.length:Int))=false:=by simp;omega
   go_wp2
   go_ret
   exact⟨rfl,by rw[List.take_of_length_le (by omega),Nat.sub_eq_zero_of_le (by omega),List.replicate_zero,List.append_nil]at hown;exact hown,hlat⟩
structure RdN (w:World) (v:Value) (zs:List Int):Prop where
 rd:RdB w v zs
 cap:∃ a cap,v=.slice a zs.length cap∧zs.length≤cap∧cap≤maxLen
theorem RdN.later {w w':World}{v:Value}{zs:List Int}(h:RdN w v zs) (hb:Later w w'):RdN w' v zs:=⟨h.rd.later hb,h.cap⟩
inductive Dat where
 | int (n:Int)
 | bytes (zs:List Int)
 | agg (fs:List Dat)
 | list (k:Nat) (l:List Dat)
mutual
def RdD (w:World):Dat→List Value→Prop
 | .int n,cs=>cs=[.int .i64 n]
 | .bytes zs,cs=>∃ v,cs=[v]∧RdN w v zs
 | .agg fs,cs=>RdAgg w fs cs
 | .list k l,cs=>∃ a cap,cs=[.slice a l.length cap]∧(l.length≤cap∧cap≤maxLen)∧RdAll w k a 0 l
def RdAgg (w:World):List Dat→List Value→Prop
 | [],cs=>cs=[]
 | d::r,cs=>∃ c1 c2,cs=c1++c2∧RdD w d c1∧RdAgg w r c2
def RdAll (w:World) (k:Nat) (a:Option Addr):Nat→List Dat→Prop
 | _,[]=>True
 | i,d::r=>(∃ g off cs,a=some ⟨g,off,none⟩∧g<w.heap.size∧cs.length=k∧(∀ m u,cs[m]?=some u→w.cell? ⟨g,off+i*k+m,none⟩=some u)∧RdD w d cs)∧RdAll w k a (i+1) r
end
mutual
theorem RdD.later {w w':World}(hb:Later w w'):∀ (d:Dat) {cs:List Value},RdD w d cs→RdD w' d cs
 | .int n,cs,h=>by rw[RdD]at h ⊢;exact h
 | .bytes zs,cs,h=>by
  rw[RdD]at h ⊢
  obtain⟨v,e,hr⟩:=h
  exact⟨v,e,hr.later hb⟩
 | .agg fs,cs,h=>by rw[RdD]at h ⊢;exact RdAgg.later hb fs h
 | .list k l,cs,h=>by
  rw[RdD]at h ⊢
  obtain⟨a,cap,e,hl,hr⟩:=h
  exact⟨a,cap,e,hl,RdAll.later hb l hr⟩
theorem RdAgg.later {w w':World}(hb:Later w w'):∀ (fs:List Dat) {cs:List Value},RdAgg w fs cs→RdAgg w' fs cs
 | [],cs,h=>by rw[RdAgg]at h ⊢;exact h
 | d::r,cs,h=>by
  rw[RdAgg]at h ⊢
  obtain⟨c1,c2,e,h1,h2⟩:=h
  exact⟨c1,c2,e,RdD.later hb d h1,RdAgg.later hb r h2⟩
theorem RdAll.later {w w':World}(hb:Later w w') {k:Nat}{a:Option Addr}:∀ (l:List Dat) {i:Nat},RdAll w k a i l→RdAll w' k a i l
 | [],i,_=>by rw[RdAll];trivial
 | d::r,i,h=>by
  rw[RdAll]at h ⊢
  obtain⟨⟨g,off,cs,e,hg,hk,hc,hd⟩,hr⟩:=h
  exact⟨⟨g,off,cs,e,Nat.lt_of_lt_of_le hg hb.size,hk,fun m u hm=>by rw[Below.cell hb (p:=⟨g,off+i*k+m,none⟩) hg];exact hc m u hm,RdD.later hb d hd⟩,RdAll.later hb r hr⟩
end
theorem RdAll.at {w:World}{k:Nat}{a:Option Addr}:∀ (l:List Dat) {i:Nat},RdAll w k a i l→∀ j (hj:j<l.length),∃ g off cs,a=some ⟨g,off,none⟩∧g<w.heap.size∧cs.length=k∧(∀ m u,cs[m]?=some u→w.cell? ⟨g,off+(i+j)*k+m,none⟩=some u)∧RdD w l[j] cs
 | d::r,i,h,0,_=>by rw[RdAll]at h;exact h.1
 | d::r,i,h,j+1,hj=>by
  rw[RdAll]at h
  have:=RdAll.at r h.2 j (by simpa using hj)
  rw[show i+1+j=i+(j+1) by omega]at this
  exact this
theorem RdAll.of {w:World}{k:Nat}{a:Option Addr}:∀ (l:List Dat) {i:Nat},(∀ j (hj:j<l.length),∃ g off cs,a=some ⟨g,off,none⟩∧g<w.heap.size∧cs.length=k∧(∀ m u,cs[m]?=some u→w.cell? ⟨g,off+(i+j)*k+m,none⟩=some u)∧RdD w l[j] cs)→RdAll w k a i l
 | [],i,_=>by rw[RdAll];trivial
 | d::r,i,h=>by
  rw[RdAll]
  refine⟨h 0 (by simp),RdAll.of r fun j hj=>?_⟩
  have:=h (j+1) (by simpa using hj)
  rw[show i+(j+1)=i+1+j by omega]at this
  exact this
def RdL (w:World) (k:Nat) (v:Value) (l:List Dat):Prop:=∃ a cap,v=.slice a l.length cap∧(l.length≤cap∧cap≤maxLen) ∧
 ∀ j (hj:j<l.length),∃ g off cs,a=some ⟨g,off,none⟩∧g<w.heap.size∧cs.length=k∧(∀ m u,cs[m]?=some u→w.cell? ⟨g,off+j*k+m,none⟩=some u)∧RdD w l[j] cs
theorem RdL.iff {w:World}{k:Nat}{l:List Dat}{cs:List Value}:RdD w (.list k l) cs↔∃ v,cs=[v]∧RdL w k v l:=by
 rw[RdD]
 constructor
 ·rintro ⟨a,cap,rfl,hl,h⟩
  exact⟨_,rfl,a,cap,rfl,hl,fun j hj=>by have:=RdAll.at l h j hj;rwa [Nat.zero_add]at this⟩
 ·rintro ⟨v,rfl,a,cap,rfl,hl,h⟩
  exact⟨a,cap,rfl,hl,RdAll.of l fun j hj=>by rw[Nat.zero_add];exact h j hj⟩
theorem RdL.later {w w':World}(hb:Later w w') {k:Nat}{v:Value}{l:List Dat}(h:RdL w k v l):RdL w' k v l:=by
 have:=RdD.later hb (.list k l) (cs:=[v]) (RdL.iff.2 ⟨v,rfl,h⟩)
 obtain⟨v',e,h'⟩:=RdL.iff.1 this
 cases e
 exact h'
theorem RdL.cap {w:World}{k:Nat}{v:Value}{l:List Dat}(h:RdL w k v l):∃ a cap,v=.slice a l.length cap∧l.length≤cap∧cap≤maxLen:=by
 obtain⟨a,cap,e,hl,_⟩:=h
 exact⟨a,cap,e,hl⟩
theorem RdL.slice {w:World}{k:Nat}{v:Value}{l:List Dat}(h:RdL w k v l):∃ a cap,v=.slice a l.length cap∧(l.length:Int)≤9223372036854775807:=by
 obtain⟨a,cap,e,hl,hm⟩:=h.cap
 exact⟨a,cap,e,by unfold maxLen at hm;omega⟩
theorem RdN.iff {w:World}{zs:List Int}{cs:List Value}:RdD w (.bytes zs) cs↔∃ v,cs=[v]∧RdN w v zs:=by rw[RdD]
theorem RdB.slice {w:World}{v:Value}{zs:List Int}(h:RdB w v zs):∃ a cap,v=.slice a zs.length cap∧(zs.length:Int)≤9223372036854775807:=by
 obtain⟨a,cap,e,hl,_⟩:=h
 exact⟨a,cap,e,hl⟩
theorem RdN.slice {w:World}{v:Value}{zs:List Int}(h:RdN w v zs):∃ a cap,v=.slice a zs.length cap∧(zs.length:Int)≤9223372036854775807:=h.rd.slice
mutual
def OwnD (w:World):Dat→List Value→List Nat→Prop
 | .int n,cs,F=>cs=[.int .i64 n]∧F=[]
 | .bytes zs,cs,F=>∃ a cap,cs=[.slice a zs.length cap]∧(zs.length≤1048576∧zs.length≤cap∧cap≤maxLen)∧(∀ j,isB (zs.getD j 0)) ∧
   (0<zs.length→∃ g,a=some ⟨g,0,none⟩∧F=[g]∧g<w.heap.size∧∀ j,j<zs.length→w.cell? ⟨g,j,none⟩=some (.int .u8 (zs.getD j 0))∧w.frozen? ⟨g,j,none⟩=false)∧(zs.length=0→F=[])
 | .agg fs,cs,F=>OwnAgg w fs cs F
 | .list k l,cs,F=>∃ a cap,cs=[.slice a l.length cap]∧(l.length≤1048576∧l.length≤cap∧cap≤maxLen) ∧
   (0<l.length→∃ g F',a=some ⟨g,0,none⟩∧F=g::F'∧g<w.heap.size∧OwnAll w k g 0 l F')∧(l.length=0→F=[])
def OwnAgg (w:World):List Dat→List Value→List Nat→Prop
 | [],cs,F=>cs=[]∧F=[]
 | d::r,cs,F=>∃ c1 c2 F1 F2,cs=c1++c2∧F=F1++F2∧OwnD w d c1 F1∧OwnAgg w r c2 F2
def OwnAll (w:World) (k:Nat) (g:Nat):Nat→List Dat→List Nat→Prop
 | _,[],F=>F=[]
 | i,d::r,F=>∃ cs F1 F2,F=F1++F2∧cs.length=k∧(∀ m u,cs[m]?=some u→w.cell? ⟨g,i*k+m,none⟩=some u∧w.frozen? ⟨g,i*k+m,none⟩=false)∧OwnD w d cs F1∧OwnAll w k g (i+1) r F2
end
mutual
theorem OwnD.rd {w:World}:∀ (d:Dat) {cs:List Value}{F:List Nat},OwnD w d cs F→RdD w d cs
 | .int n,cs,F,h=>by rw[OwnD]at h;rw[RdD];exact h.1
 | .bytes zs,cs,F,h=>by
  rw[OwnD]at h
  rw[RdD]
  obtain⟨a,cap,rfl,hl,hb,hc,_⟩:=h
  refine⟨_,rfl,⟨a,cap,rfl,by omega,hb,fun j hj=>?_⟩,⟨a,cap,rfl,hl.2⟩⟩
  obtain⟨g,rfl,_,hg,hh⟩:=hc (by omega)
  exact⟨g,0,rfl,hg,by rw[Nat.zero_add];exact (hh j hj).1⟩
 | .agg fs,cs,F,h=>by rw[OwnD]at h;rw[RdD];exact OwnAgg.rd fs h
 | .list k l,cs,F,h=>by
  rw[OwnD]at h
  rw[RdD]
  obtain⟨a,cap,rfl,hl,hc,_⟩:=h
  refine⟨a,cap,rfl,hl.2,?_⟩
  match l,hc with
  | [],_=>rw[RdAll];trivial
  | d::r,hc =>
   obtain⟨g,F',rfl,_,hg,hh⟩:=hc (by simp)
   exact OwnAll.rd (d::r) hg hh
theorem OwnAgg.rd {w:World}:∀ (fs:List Dat) {cs:List Value}{F:List Nat},OwnAgg w fs cs F→RdAgg w fs cs
 | [],cs,F,h=>by rw[OwnAgg]at h;rw[RdAgg];exact h.1
 | d::r,cs,F,h=>by
  rw[OwnAgg]at h
  rw[RdAgg]
  obtain⟨c1,c2,F1,F2,e,_,h1,h2⟩:=h
  exact⟨c1,c2,e,OwnD.rd d h1,OwnAgg.rd r h2⟩
theorem OwnAll.rd {w:World}{k g:Nat}:∀ (l:List Dat) {i:Nat}{F:List Nat},g<w.heap.size→OwnAll w k g i l F→RdAll w k (some ⟨g,0,none⟩) i l
 | [],i,F,_,_=>by rw[RdAll];trivial
 | d::r,i,F,hg,h=>by
  rw[OwnAll]at h
  rw[RdAll]
  obtain⟨cs,F1,F2,_,hk,hc,hd,hr⟩:=h
  exact⟨⟨g,0,cs,rfl,hg,hk,fun m u hm=>by rw[Nat.zero_add];exact (hc m u hm).1,OwnD.rd d hd⟩,OwnAll.rd r hg hr⟩
end
mutual
theorem OwnD.agree {w w':World}(hs:w.heap.size≤w'.heap.size):∀ (d:Dat) {cs:List Value}{F:List Nat},OwnD w d cs F→(∀ b∈F,w'.heap[b]?=w.heap[b]?)→OwnD w' d cs F
 | .int n,cs,F,h,_=>by rw[OwnD]at h ⊢;exact h
 | .bytes zs,cs,F,h,ha=>by
  rw[OwnD]at h ⊢
  obtain⟨a,cap,e,hl,hb,hc,h0⟩:=h
  refine⟨a,cap,e,hl,hb,fun hp=>?_,h0⟩
  obtain⟨g,rfl,rfl,hg,hh⟩:=hc hp
  have hbl:=ha g (List.mem_singleton.2 rfl)
  refine⟨g,rfl,rfl,by omega,fun j hj=>?_⟩
  have:=hh j hj
  exact⟨by rw[show w'.cell? ⟨g,j,none⟩=w.cell? ⟨g,j,none⟩ from by unfold World.cell?;rw[show w'.heap[(⟨g,j,none⟩:Addr).block]?=w.heap[(⟨g,j,none⟩:Addr).block]? from hbl]];exact this.1,by rw[show w'.frozen? ⟨g,j,none⟩=w.frozen? ⟨g,j,none⟩ from by unfold World.frozen?;rw[show w'.heap[(⟨g,j,none⟩:Addr).block]?=w.heap[(⟨g,j,none⟩:Addr).block]? from hbl]];exact this.2⟩
 | .agg fs,cs,F,h,ha=>by rw[OwnD]at h ⊢;exact OwnAgg.agree hs fs h ha
 | .list k l,cs,F,h,ha=>by
  rw[OwnD]at h ⊢
  obtain⟨a,cap,e,hl,hc,h0⟩:=h
  refine⟨a,cap,e,hl,fun hp=>?_,h0⟩
  obtain⟨g,F',rfl,rfl,hg,hh⟩:=hc hp
  exact⟨g,F',rfl,rfl,by omega,OwnAll.agree hs l hh (ha g (List.mem_cons_self ..)) (fun b hb=>ha b (List.mem_cons_of_mem _ hb))⟩
theorem OwnAgg.agree {w w':World}(hs:w.heap.size≤w'.heap.size):∀ (fs:List Dat) {cs:List Value}{F:List Nat},OwnAgg w fs cs F→(∀ b∈F,w'.heap[b]?=w.heap[b]?)→OwnAgg w' fs cs F
 | [],cs,F,h,_=>by rw[OwnAgg]at h ⊢;exact h
 | d::r,cs,F,h,ha=>by
  rw[OwnAgg]at h ⊢
  obtain⟨c1,c2,F1,F2,e,rfl,h1,h2⟩:=h
  exact⟨c1,c2,F1,F2,e,rfl,OwnD.agree hs d h1 (fun b hb=>ha b (List.mem_append_left _ hb)),OwnAgg.agree hs r h2 (fun b hb=>ha b (List.mem_append_right _ hb))⟩
theorem OwnAll.agree {w w':World}(hs:w.heap.size≤w'.heap.size) {k g:Nat}:∀ (l:List Dat) {i:Nat}{F:List Nat},OwnAll w k g i l F→w'.heap[g]?=w.heap[g]?→(∀ b∈F,w'.heap[b]?=w.heap[b]?)→OwnAll w' k g i l F
 | [],i,F,h,_,_=>by rw[OwnAll]at h ⊢;exact h
 | d::r,i,F,h,hg,ha=>by
  rw[OwnAll]at h ⊢
  obtain⟨cs,F1,F2,rfl,hk,hc,hd,hr⟩:=h
  refine⟨cs,F1,F2,rfl,hk,fun m u hm=>?_,OwnD.agree hs d hd (fun b hb=>ha b (List.mem_append_left _ hb)),OwnAll.agree hs r hr hg (fun b hb=>ha b (List.mem_append_right _ hb))⟩
  have:=hc m u hm
  exact⟨by rw[show w'.cell? ⟨g,i*k+m,none⟩=w.cell? ⟨g,i*k+m,none⟩ from by unfold World.cell?;rw[show w'.heap[(⟨g,i*k+m,none⟩:Addr).block]?=w.heap[(⟨g,i*k+m,none⟩:Addr).block]? from hg]];exact this.1,by rw[show w'.frozen? ⟨g,i*k+m,none⟩=w.frozen? ⟨g,i*k+m,none⟩ from by unfold World.frozen?;rw[show w'.heap[(⟨g,i*k+m,none⟩:Addr).block]?=w.heap[(⟨g,i*k+m,none⟩:Addr).block]? from hg]];exact this.2⟩
end
structure Own (base:Nat) (w:World) (d:Dat) (cs:List Value) (F:List Nat):Prop where
 own:OwnD w d cs F
 nodup:F.Nodup
 fresh:∀ b∈F,base≤b∧b<w.heap.size
theorem Own.rd {base:Nat}{w:World}{d:Dat}{cs:List Value}{F:List Nat}(h:Own base w d cs F):RdD w d cs:=h.own.rd
theorem Own.later {base:Nat}{w w':World}{d:Dat}{cs:List Value}{F:List Nat}(h:Own base w d cs F) (hb:Later w w'):Own base w' d cs F :=
 ⟨OwnD.agree hb.size d h.own (fun b hbF=>hb.block b (h.fresh b hbF).2),h.nodup,fun b hbF=>⟨(h.fresh b hbF).1,Nat.lt_of_lt_of_le (h.fresh b hbF).2 hb.size⟩⟩
theorem Own.agree {base:Nat}{w w':World}{d:Dat}{cs:List Value}{F:List Nat}(h:Own base w d cs F) (hs:w.heap.size≤w'.heap.size) (ha:∀ b,base≤b→b<w.heap.size→w'.heap[b]?=w.heap[b]?):Own base w' d cs F :=
 ⟨OwnD.agree hs d h.own (fun b hbF=>ha b (h.fresh b hbF).1 (h.fresh b hbF).2),h.nodup,fun b hbF=>⟨(h.fresh b hbF).1,Nat.lt_of_lt_of_le (h.fresh b hbF).2 hs⟩⟩
inductive Pa where
 | mk (name:List Int) (tk:Int) (tn:Int)
def Pa.name:Pa→List Int|.mk x _ _=>x
def Pa.tk:Pa→Int|.mk _ x _=>x
def Pa.tn:Pa→Int|.mk _ _ x=>x
def Pa.dat:Pa→Dat
 | .mk name tk tn=>.agg [.bytes name,.int tk,.int tn]
def Pa.dats:List Pa→List Dat
 | []=>[]
 | x::r=>x.dat::Pa.dats r
def Pa.sz:Pa→Nat
 | .mk name _ _=>name.length
def Pa.szs:List Pa→Nat
 | []=>0
 | x::r=>1+x.sz+Pa.szs r
theorem Pa.dats_len (l:List Pa):(Pa.dats l).length=l.length:=by
 induction l with
 | nil=>rfl
 | cons x r ih=>rw[Pa.dats,List.length_cons,List.length_cons,ih]
theorem Pa.dats_at:∀ (l:List Pa) (j:Nat) (h:j<l.length) (h':j<(Pa.dats l).length),(Pa.dats l)[j]=l[j].dat
 | x::r,0,_,_=>rfl
 | x::r,j+1,h,h'=>Pa.dats_at r j (by simpa using h) (by rw[Pa.dats_len];simpa using h)
theorem Pa.view {w:World}{x:Pa}{cs:List Value}(h:RdD w x.dat cs):∃ v0,cs=[v0,.int .i64 x.tk,.int .i64 x.tn]∧RdN w v0 x.name:=by
 obtain⟨name,tk,tn⟩:=x
 rw[Pa.dat,RdD]at h
 rw[RdAgg]at h
 obtain⟨c0,d0,rfl,h0,h⟩:=h
 obtain⟨u0,rfl,k0⟩:=RdN.iff.1 h0
 rw[RdAgg]at h
 obtain⟨c1,d1,rfl,h1,h⟩:=h
 rw[RdD]at h1
 subst h1
 rw[RdAgg]at h
 obtain⟨c2,d2,rfl,h2,h⟩:=h
 rw[RdD]at h2
 subst h2
 rw[RdAgg]at h
 subst h
 exact⟨u0,rfl,k0⟩
theorem Pa.unview {w:World}{x:Pa}{v0:Value}(h0:RdN w v0 x.name):RdD w x.dat [v0,.int .i64 x.tk,.int .i64 x.tn]:=by
 obtain⟨name,tk,tn⟩:=x
 rw[Pa.dat,RdD]
 rw[RdAgg]
 refine⟨[_],_,rfl,RdN.iff.2 ⟨_,rfl,h0⟩,?_⟩
 rw[RdAgg]
 refine⟨[_],_,rfl,by rw[RdD];rfl,?_⟩
 rw[RdAgg]
 refine⟨[_],_,rfl,by rw[RdD];rfl,?_⟩
 rw[RdAgg]
theorem Pa.slice {w:World}{v:Value}{l:List Pa}(h:RdL w 3 v (Pa.dats l)):∃ a cap,v=.slice a l.length cap∧(l.length:Int)≤9223372036854775807:=by
 obtain⟨a,cap,e,hl⟩:=h.slice
 rw[Pa.dats_len]at e hl
 exact⟨a,cap,e,hl⟩
theorem Pa.elem {w:World}{a:Option Addr}{n cap:Nat}{l:List Pa}(h:RdL w 3 (.slice a n cap) (Pa.dats l)) (j:Nat) (hj:j<l.length):∃ g off v0,a=some ⟨g,off,none⟩∧g<w.heap.size∧w.cell? ⟨g,off+j*3,none⟩=some (v0)∧w.cell? ⟨g,off+j*3+1,none⟩=some (.int .i64 l[j].tk)∧w.cell? ⟨g,off+j*3+2,none⟩=some (.int .i64 l[j].tn)∧RdN w v0 l[j].name:=by
 obtain⟨_,_,e,_,h⟩:=h
 cases e
 obtain⟨g,off,cs,rfl,hg,hk,hc,hd⟩:=h j (by rw[Pa.dats_len];exact hj)
 rw[Pa.dats_at l j hj]at hd
 obtain⟨v0,rfl,r0⟩:=Pa.view hd
 exact⟨g,off,v0,rfl,hg,hc 0 _ rfl,hc 1 _ rfl,hc 2 _ rfl,r0⟩
theorem Pa.szs_ge (l:List Pa):l.length≤Pa.szs l:=by
 induction l with
 | nil=>exact Nat.le_refl _
 | cons x r ih=>rw[Pa.szs,List.length_cons];omega
theorem Pa.sz_at:∀ (l:List Pa) (j:Nat) (h:j<l.length),l[j].sz+l.length≤Pa.szs l
 | x::r,0,_=>by rw[Pa.szs];have:=Pa.szs_ge r;simp only[List.getElem_cons_zero,List.length_cons];omega
 | x::r,j+1,h=>by rw[Pa.szs];have:=Pa.sz_at r j (by simpa using h);simp only[List.getElem_cons_succ,List.length_cons];omega
def Pa.pre (l:List Pa) (k:Nat):Nat:=Pa.szs (l.take k) - k
theorem Pa.pre_zero (l:List Pa):Pa.pre l 0=0:=rfl
theorem Pa.szs_app (l r:List Pa):Pa.szs (l++r)=Pa.szs l+Pa.szs r:=by
 induction l with
 | nil=>rw[List.nil_append,Pa.szs,Nat.zero_add]
 | cons x l ih=>rw[List.cons_append,Pa.szs,Pa.szs,ih];omega
theorem Pa.pre_succ {l:List Pa}{k:Nat}(h:k<l.length):Pa.pre l (k+1)=Pa.pre l k+l[k].sz:=by
 unfold Pa.pre
 rw[List.take_succ_eq_append_getElem h,Pa.szs_app,Pa.szs,Pa.szs]
 have:=Pa.szs_ge (l.take k)
 rw[List.length_take,Nat.min_eq_left (by omega)]at this
 omega
theorem Pa.pre_all (l:List Pa):l.length+Pa.pre l l.length=Pa.szs l:=by
 unfold Pa.pre
 rw[List.take_length]
 have:=Pa.szs_ge l
 omega
theorem Pa.pre_le (l:List Pa) (k:Nat) (h:k≤l.length):l.length+Pa.pre l k≤Pa.szs l:=by
 have e:Pa.szs l=Pa.szs (l.take k)+Pa.szs (l.drop k):=by rw[←Pa.szs_app,List.take_append_drop]
 have h1:=Pa.szs_ge (l.take k)
 have h2:=Pa.szs_ge (l.drop k)
 rw[List.length_take,Nat.min_eq_left h]at h1
 rw[List.length_drop]at h2
 unfold Pa.pre
 omega
inductive Sc where
 | mk (name:List Int) (fields:List Pa)
def Sc.name:Sc→List Int|.mk x _=>x
def Sc.fields:Sc→List Pa|.mk _ x=>x
def Sc.dat:Sc→Dat
 | .mk name fields=>.agg [.bytes name,.list 3 (Pa.dats fields)]
def Sc.dats:List Sc→List Dat
 | []=>[]
 | x::r=>x.dat::Sc.dats r
def Sc.sz:Sc→Nat
 | .mk name fields=>name.length+Pa.szs fields
def Sc.szs:List Sc→Nat
 | []=>0
 | x::r=>1+x.sz+Sc.szs r
theorem Sc.dats_len (l:List Sc):(Sc.dats l).length=l.length:=by
 induction l with
 | nil=>rfl
 | cons x r ih=>rw[Sc.dats,List.length_cons,List.length_cons,ih]
theorem Sc.dats_at:∀ (l:List Sc) (j:Nat) (h:j<l.length) (h':j<(Sc.dats l).length),(Sc.dats l)[j]=l[j].dat
 | x::r,0,_,_=>rfl
 | x::r,j+1,h,h'=>Sc.dats_at r j (by simpa using h) (by rw[Sc.dats_len];simpa using h)
theorem Sc.view {w:World}{x:Sc}{cs:List Value}(h:RdD w x.dat cs):∃ v0 v1,cs=[v0,v1]∧RdN w v0 x.name∧RdL w 3 v1 (Pa.dats x.fields):=by
 obtain⟨name,fields⟩:=x
 rw[Sc.dat,RdD]at h
 rw[RdAgg]at h
 obtain⟨c0,d0,rfl,h0,h⟩:=h
 obtain⟨u0,rfl,k0⟩:=RdN.iff.1 h0
 rw[RdAgg]at h
 obtain⟨c1,d1,rfl,h1,h⟩:=h
 obtain⟨u1,rfl,k1⟩:=RdL.iff.1 h1
 rw[RdAgg]at h
 subst h
 exact⟨u0,u1,rfl,k0,k1⟩
theorem Sc.unview {w:World}{x:Sc}{v0 v1:Value}(h0:RdN w v0 x.name) (h1:RdL w 3 v1 (Pa.dats x.fields)):RdD w x.dat [v0,v1]:=by
 obtain⟨name,fields⟩:=x
 rw[Sc.dat,RdD]
 rw[RdAgg]
 refine⟨[_],_,rfl,RdN.iff.2 ⟨_,rfl,h0⟩,?_⟩
 rw[RdAgg]
 refine⟨[_],_,rfl,RdL.iff.2 ⟨_,rfl,h1⟩,?_⟩
 rw[RdAgg]
theorem Sc.slice {w:World}{v:Value}{l:List Sc}(h:RdL w 2 v (Sc.dats l)):∃ a cap,v=.slice a l.length cap∧(l.length:Int)≤9223372036854775807:=by
 obtain⟨a,cap,e,hl⟩:=h.slice
 rw[Sc.dats_len]at e hl
 exact⟨a,cap,e,hl⟩
theorem Sc.elem {w:World}{a:Option Addr}{n cap:Nat}{l:List Sc}(h:RdL w 2 (.slice a n cap) (Sc.dats l)) (j:Nat) (hj:j<l.length):∃ g off v0 v1,a=some ⟨g,off,none⟩∧g<w.heap.size∧w.cell? ⟨g,off+j*2,none⟩=some (v0)∧w.cell? ⟨g,off+j*2+1,none⟩=some (v1)∧RdN w v0 l[j].name∧RdL w 3 v1 (Pa.dats l[j].fields):=by
 obtain⟨_,_,e,_,h⟩:=h
 cases e
 obtain⟨g,off,cs,rfl,hg,hk,hc,hd⟩:=h j (by rw[Sc.dats_len];exact hj)
 rw[Sc.dats_at l j hj]at hd
 obtain⟨v0,v1,rfl,r0,r1⟩:=Sc.view hd
 exact⟨g,off,v0,v1,rfl,hg,hc 0 _ rfl,hc 1 _ rfl,r0,r1⟩
theorem Sc.szs_ge (l:List Sc):l.length≤Sc.szs l:=by
 induction l with
 | nil=>exact Nat.le_refl _
 | cons x r ih=>rw[Sc.szs,List.length_cons];omega
theorem Sc.sz_at:∀ (l:List Sc) (j:Nat) (h:j<l.length),l[j].sz+l.length≤Sc.szs l
 | x::r,0,_=>by rw[Sc.szs];have:=Sc.szs_ge r;simp only[List.getElem_cons_zero,List.length_cons];omega
 | x::r,j+1,h=>by rw[Sc.szs];have:=Sc.sz_at r j (by simpa using h);simp only[List.getElem_cons_succ,List.length_cons];omega
def Sc.pre (l:List Sc) (k:Nat):Nat:=Sc.szs (l.take k) - k
theorem Sc.pre_zero (l:List Sc):Sc.pre l 0=0:=rfl
theorem Sc.szs_app (l r:List Sc):Sc.szs (l++r)=Sc.szs l+Sc.szs r:=by
 induction l with
 | nil=>rw[List.nil_append,Sc.szs,Nat.zero_add]
 | cons x l ih=>rw[List.cons_append,Sc.szs,Sc.szs,ih];omega
theorem Sc.pre_succ {l:List Sc}{k:Nat}(h:k<l.length):Sc.pre l (k+1)=Sc.pre l k+l[k].sz:=by
 unfold Sc.pre
 rw[List.take_succ_eq_append_getElem h,Sc.szs_app,Sc.szs,Sc.szs]
 have:=Sc.szs_ge (l.take k)
 rw[List.length_take,Nat.min_eq_left (by omega)]at this
 omega
theorem Sc.pre_all (l:List Sc):l.length+Sc.pre l l.length=Sc.szs l:=by
 unfold Sc.pre
 rw[List.take_length]
 have:=Sc.szs_ge l
 omega
theorem Sc.pre_le (l:List Sc) (k:Nat) (h:k≤l.length):l.length+Sc.pre l k≤Sc.szs l:=by
 have e:Sc.szs l=Sc.szs (l.take k)+Sc.szs (l.drop k):=by rw[←Sc.szs_app,List.take_append_drop]
 have h1:=Sc.szs_ge (l.take k)
 have h2:=Sc.szs_ge (l.drop k)
 rw[List.length_take,Nat.min_eq_left h]at h1
 rw[List.length_drop]at h2
 unfold Sc.pre
 omega
inductive Ex where
 | mk (kind:Int) (n:Int) (tk:Int) (tn:Int) (name:List Int) (kids:List Ex)
def Ex.kind:Ex→Int|.mk x _ _ _ _ _=>x
def Ex.n:Ex→Int|.mk _ x _ _ _ _=>x
def Ex.tk:Ex→Int|.mk _ _ x _ _ _=>x
def Ex.tn:Ex→Int|.mk _ _ _ x _ _=>x
def Ex.name:Ex→List Int|.mk _ _ _ _ x _=>x
def Ex.kids:Ex→List Ex|.mk _ _ _ _ _ x=>x
mutual
def Ex.dat:Ex→Dat
 | .mk kind n tk tn name kids=>.agg [.int kind,.int n,.int tk,.int tn,.bytes name,.list 6 (Ex.dats kids)]
def Ex.dats:List Ex→List Dat
 | []=>[]
 | x::r=>x.dat::Ex.dats r
end
mutual
def Ex.sz:Ex→Nat
 | .mk _ _ _ _ name kids=>name.length+Ex.szs kids
def Ex.szs:List Ex→Nat
 | []=>0
 | x::r=>1+x.sz+Ex.szs r
end
theorem Ex.dats_len (l:List Ex):(Ex.dats l).length=l.length:=by
 induction l with
 | nil=>rfl
 | cons x r ih=>rw[Ex.dats,List.length_cons,List.length_cons,ih]
theorem Ex.dats_at:∀ (l:List Ex) (j:Nat) (h:j<l.length) (h':j<(Ex.dats l).length),(Ex.dats l)[j]=l[j].dat
 | x::r,0,_,_=>rfl
 | x::r,j+1,h,h'=>Ex.dats_at r j (by simpa using h) (by rw[Ex.dats_len];simpa using h)
theorem Ex.view {w:World}{x:Ex}{cs:List Value}(h:RdD w x.dat cs):∃ v0 v1,cs=[.int .i64 x.kind,.int .i64 x.n,.int .i64 x.tk,.int .i64 x.tn,v0,v1]∧RdN w v0 x.name∧RdL w 6 v1 (Ex.dats x.kids):=by
 obtain⟨kind,n,tk,tn,name,kids⟩:=x
 rw[Ex.dat,RdD]at h
 rw[RdAgg]at h
 obtain⟨c0,d0,rfl,h0,h⟩:=h
 rw[RdD]at h0
 subst h0
 rw[RdAgg]at h
 obtain⟨c1,d1,rfl,h1,h⟩:=h
 rw[RdD]at h1
 subst h1
 rw[RdAgg]at h
 obtain⟨c2,d2,rfl,h2,h⟩:=h
 rw[RdD]at h2
 subst h2
 rw[RdAgg]at h
 obtain⟨c3,d3,rfl,h3,h⟩:=h
 rw[RdD]at h3
 subst h3
 rw[RdAgg]at h
 obtain⟨c4,d4,rfl,h4,h⟩:=h
 obtain⟨u4,rfl,k4⟩:=RdN.iff.1 h4
 rw[RdAgg]at h
 obtain⟨c5,d5,rfl,h5,h⟩:=h
 obtain⟨u5,rfl,k5⟩:=RdL.iff.1 h5
 rw[RdAgg]at h
 subst h
 exact⟨u4,u5,rfl,k4,k5⟩
theorem Ex.unview {w:World}{x:Ex}{v0 v1:Value}(h0:RdN w v0 x.name) (h1:RdL w 6 v1 (Ex.dats x.kids)):RdD w x.dat [.int .i64 x.kind,.int .i64 x.n,.int .i64 x.tk,.int .i64 x.tn,v0,v1]:=by
 obtain⟨kind,n,tk,tn,name,kids⟩:=x
 rw[Ex.dat,RdD]
 rw[RdAgg]
 refine⟨[_],_,rfl,by rw[RdD];rfl,?_⟩
 rw[RdAgg]
 refine⟨[_],_,rfl,by rw[RdD];rfl,?_⟩
 rw[RdAgg]
 refine⟨[_],_,rfl,by rw[RdD];rfl,?_⟩
 rw[RdAgg]
 refine⟨[_],_,rfl,by rw[RdD];rfl,?_⟩
 rw[RdAgg]
 refine⟨[_],_,rfl,RdN.iff.2 ⟨_,rfl,h0⟩,?_⟩
 rw[RdAgg]
 refine⟨[_],_,rfl,RdL.iff.2 ⟨_,rfl,h1⟩,?_⟩
 rw[RdAgg]
theorem Ex.slice {w:World}{v:Value}{l:List Ex}(h:RdL w 6 v (Ex.dats l)):∃ a cap,v=.slice a l.length cap∧(l.length:Int)≤9223372036854775807:=by
 obtain⟨a,cap,e,hl⟩:=h.slice
 rw[Ex.dats_len]at e hl
 exact⟨a,cap,e,hl⟩
theorem Ex.elem {w:World}{a:Option Addr}{n cap:Nat}{l:List Ex}(h:RdL w 6 (.slice a n cap) (Ex.dats l)) (j:Nat) (hj:j<l.length):∃ g off v0 v1,a=some ⟨g,off,none⟩∧g<w.heap.size∧w.cell? ⟨g,off+j*6,none⟩=some (.int .i64 l[j].kind)∧w.cell? ⟨g,off+j*6+1,none⟩=some (.int .i64 l[j].n)∧w.cell? ⟨g,off+j*6+2,none⟩=some (.int .i64 l[j].tk)∧w.cell? ⟨g,off+j*6+3,none⟩=some (.int .i64 l[j].tn)∧w.cell? ⟨g,off+j*6+4,none⟩=some (v0)∧w.cell? ⟨g,off+j*6+5,none⟩=some (v1)∧RdN w v0 l[j].name∧RdL w 6 v1 (Ex.dats l[j].kids):=by
 obtain⟨_,_,e,_,h⟩:=h
 cases e
 obtain⟨g,off,cs,rfl,hg,hk,hc,hd⟩:=h j (by rw[Ex.dats_len];exact hj)
 rw[Ex.dats_at l j hj]at hd
 obtain⟨v0,v1,rfl,r0,r1⟩:=Ex.view hd
 exact⟨g,off,v0,v1,rfl,hg,hc 0 _ rfl,hc 1 _ rfl,hc 2 _ rfl,hc 3 _ rfl,hc 4 _ rfl,hc 5 _ rfl,r0,r1⟩
theorem Ex.szs_ge (l:List Ex):l.length≤Ex.szs l:=by
 induction l with
 | nil=>exact Nat.le_refl _
 | cons x r ih=>rw[Ex.szs,List.length_cons];omega
theorem Ex.sz_at:∀ (l:List Ex) (j:Nat) (h:j<l.length),l[j].sz+l.length≤Ex.szs l
 | x::r,0,_=>by rw[Ex.szs];have:=Ex.szs_ge r;simp only[List.getElem_cons_zero,List.length_cons];omega
 | x::r,j+1,h=>by rw[Ex.szs];have:=Ex.sz_at r j (by simpa using h);simp only[List.getElem_cons_succ,List.length_cons];omega
def Ex.pre (l:List Ex) (k:Nat):Nat:=Ex.szs (l.take k) - k
theorem Ex.pre_zero (l:List Ex):Ex.pre l 0=0:=rfl
theorem Ex.szs_app (l r:List Ex):Ex.szs (l++r)=Ex.szs l+Ex.szs r:=by
 induction l with
 | nil=>rw[List.nil_append,Ex.szs,Nat.zero_add]
 | cons x l ih=>rw[List.cons_append,Ex.szs,Ex.szs,ih];omega
theorem Ex.pre_succ {l:List Ex}{k:Nat}(h:k<l.length):Ex.pre l (k+1)=Ex.pre l k+l[k].sz:=by
 unfold Ex.pre
 rw[List.take_succ_eq_append_getElem h,Ex.szs_app,Ex.szs,Ex.szs]
 have:=Ex.szs_ge (l.take k)
 rw[List.length_take,Nat.min_eq_left (by omega)]at this
 omega
theorem Ex.pre_all (l:List Ex):l.length+Ex.pre l l.length=Ex.szs l:=by
 unfold Ex.pre
 rw[List.take_length]
 have:=Ex.szs_ge l
 omega
theorem Ex.pre_le (l:List Ex) (k:Nat) (h:k≤l.length):l.length+Ex.pre l k≤Ex.szs l:=by
 have e:Ex.szs l=Ex.szs (l.take k)+Ex.szs (l.drop k):=by rw[←Ex.szs_app,List.take_append_drop]
 have h1:=Ex.szs_ge (l.take k)
 have h2:=Ex.szs_ge (l.drop k)
 rw[List.length_take,Nat.min_eq_left h]at h1
 rw[List.length_drop]at h2
 unfold Ex.pre
 omega
inductive St where
 | mk (kind:Int) (n:Int) (tk:Int) (tn:Int) (name:List Int) (kids:List Ex) (body:List St) (els:List St)
def St.kind:St→Int|.mk x _ _ _ _ _ _ _=>x
def St.n:St→Int|.mk _ x _ _ _ _ _ _=>x
def St.tk:St→Int|.mk _ _ x _ _ _ _ _=>x
def St.tn:St→Int|.mk _ _ _ x _ _ _ _=>x
def St.name:St→List Int|.mk _ _ _ _ x _ _ _=>x
def St.kids:St→List Ex|.mk _ _ _ _ _ x _ _=>x
def St.body:St→List St|.mk _ _ _ _ _ _ x _=>x
def St.els:St→List St|.mk _ _ _ _ _ _ _ x=>x
mutual
def St.dat:St→Dat
 | .mk kind n tk tn name kids body els=>.agg [.int kind,.int n,.int tk,.int tn,.bytes name,.list 6 (Ex.dats kids),.list 8 (St.dats body),.list 8 (St.dats els)]
def St.dats:List St→List Dat
 | []=>[]
 | x::r=>x.dat::St.dats r
end
mutual
def St.sz:St→Nat
 | .mk _ _ _ _ name kids body els=>name.length+Ex.szs kids+St.szs body+St.szs els
def St.szs:List St→Nat
 | []=>0
 | x::r=>1+x.sz+St.szs r
end
theorem St.dats_len (l:List St):(St.dats l).length=l.length:=by
 induction l with
 | nil=>rfl
 | cons x r ih=>rw[St.dats,List.length_cons,List.length_cons,ih]
theorem St.dats_at:∀ (l:List St) (j:Nat) (h:j<l.length) (h':j<(St.dats l).length),(St.dats l)[j]=l[j].dat
 | x::r,0,_,_=>rfl
 | x::r,j+1,h,h'=>St.dats_at r j (by simpa using h) (by rw[St.dats_len];simpa using h)
theorem St.view {w:World}{x:St}{cs:List Value}(h:RdD w x.dat cs):∃ v0 v1 v2 v3,cs=[.int .i64 x.kind,.int .i64 x.n,.int .i64 x.tk,.int .i64 x.tn,v0,v1,v2,v3]∧RdN w v0 x.name∧RdL w 6 v1 (Ex.dats x.kids)∧RdL w 8 v2 (St.dats x.body)∧RdL w 8 v3 (St.dats x.els):=by
 obtain⟨kind,n,tk,tn,name,kids,body,els⟩:=x
 rw[St.dat,RdD]at h
 rw[RdAgg]at h
 obtain⟨c0,d0,rfl,h0,h⟩:=h
 rw[RdD]at h0
 subst h0
 rw[RdAgg]at h
 obtain⟨c1,d1,rfl,h1,h⟩:=h
 rw[RdD]at h1
 subst h1
 rw[RdAgg]at h
 obtain⟨c2,d2,rfl,h2,h⟩:=h
 rw[RdD]at h2
 subst h2
 rw[RdAgg]at h
 obtain⟨c3,d3,rfl,h3,h⟩:=h
 rw[RdD]at h3
 subst h3
 rw[RdAgg]at h
 obtain⟨c4,d4,rfl,h4,h⟩:=h
 obtain⟨u4,rfl,k4⟩:=RdN.iff.1 h4
 rw[RdAgg]at h
 obtain⟨c5,d5,rfl,h5,h⟩:=h
 obtain⟨u5,rfl,k5⟩:=RdL.iff.1 h5
 rw[RdAgg]at h
 obtain⟨c6,d6,rfl,h6,h⟩:=h
 obtain⟨u6,rfl,k6⟩:=RdL.iff.1 h6
 rw[RdAgg]at h
 obtain⟨c7,d7,rfl,h7,h⟩:=h
 obtain⟨u7,rfl,k7⟩:=RdL.iff.1 h7
 rw[RdAgg]at h
 subst h
 exact⟨u4,u5,u6,u7,rfl,k4,k5,k6,k7⟩
theorem St.unview {w:World}{x:St}{v0 v1 v2 v3:Value}(h0:RdN w v0 x.name) (h1:RdL w 6 v1 (Ex.dats x.kids)) (h2:RdL w 8 v2 (St.dats x.body)) (h3:RdL w 8 v3 (St.dats x.els)):RdD w x.dat [.int .i64 x.kind,.int .i64 x.n,.int .i64 x.tk,.int .i64 x.tn,v0,v1,v2,v3]:=by
 obtain⟨kind,n,tk,tn,name,kids,body,els⟩:=x
 rw[St.dat,RdD]
 rw[RdAgg]
 refine⟨[_],_,rfl,by rw[RdD];rfl,?_⟩
 rw[RdAgg]
 refine⟨[_],_,rfl,by rw[RdD];rfl,?_⟩
 rw[RdAgg]
 refine⟨[_],_,rfl,by rw[RdD];rfl,?_⟩
 rw[RdAgg]
 refine⟨[_],_,rfl,by rw[RdD];rfl,?_⟩
 rw[RdAgg]
 refine⟨[_],_,rfl,RdN.iff.2 ⟨_,rfl,h0⟩,?_⟩
 rw[RdAgg]
 refine⟨[_],_,rfl,RdL.iff.2 ⟨_,rfl,h1⟩,?_⟩
 rw[RdAgg]
 refine⟨[_],_,rfl,RdL.iff.2 ⟨_,rfl,h2⟩,?_⟩
 rw[RdAgg]
 refine⟨[_],_,rfl,RdL.iff.2 ⟨_,rfl,h3⟩,?_⟩
 rw[RdAgg]
theorem St.slice {w:World}{v:Value}{l:List St}(h:RdL w 8 v (St.dats l)):∃ a cap,v=.slice a l.length cap∧(l.length:Int)≤9223372036854775807:=by
 obtain⟨a,cap,e,hl⟩:=h.slice
 rw[St.dats_len]at e hl
 exact⟨a,cap,e,hl⟩
theorem St.elem {w:World}{a:Option Addr}{n cap:Nat}{l:List St}(h:RdL w 8 (.slice a n cap) (St.dats l)) (j:Nat) (hj:j<l.length):∃ g off v0 v1 v2 v3,a=some ⟨g,off,none⟩∧g<w.heap.size∧w.cell? ⟨g,off+j*8,none⟩=some (.int .i64 l[j].kind)∧w.cell? ⟨g,off+j*8+1,none⟩=some (.int .i64 l[j].n)∧w.cell? ⟨g,off+j*8+2,none⟩=some (.int .i64 l[j].tk)∧w.cell? ⟨g,off+j*8+3,none⟩=some (.int .i64 l[j].tn)∧w.cell? ⟨g,off+j*8+4,none⟩=some (v0)∧w.cell? ⟨g,off+j*8+5,none⟩=some (v1)∧w.cell? ⟨g,off+j*8+6,none⟩=some (v2)∧w.cell? ⟨g,off+j*8+7,none⟩=some (v3)∧RdN w v0 l[j].name∧RdL w 6 v1 (Ex.dats l[j].kids)∧RdL w 8 v2 (St.dats l[j].body)∧RdL w 8 v3 (St.dats l[j].els):=by
 obtain⟨_,_,e,_,h⟩:=h
 cases e
 obtain⟨g,off,cs,rfl,hg,hk,hc,hd⟩:=h j (by rw[St.dats_len];exact hj)
 rw[St.dats_at l j hj]at hd
 obtain⟨v0,v1,v2,v3,rfl,r0,r1,r2,r3⟩:=St.view hd
 exact⟨g,off,v0,v1,v2,v3,rfl,hg,hc 0 _ rfl,hc 1 _ rfl,hc 2 _ rfl,hc 3 _ rfl,hc 4 _ rfl,hc 5 _ rfl,hc 6 _ rfl,hc 7 _ rfl,r0,r1,r2,r3⟩
theorem St.szs_ge (l:List St):l.length≤St.szs l:=by
 induction l with
 | nil=>exact Nat.le_refl _
 | cons x r ih=>rw[St.szs,List.length_cons];omega
theorem St.sz_at:∀ (l:List St) (j:Nat) (h:j<l.length),l[j].sz+l.length≤St.szs l
 | x::r,0,_=>by rw[St.szs];have:=St.szs_ge r;simp only[List.getElem_cons_zero,List.length_cons];omega
 | x::r,j+1,h=>by rw[St.szs];have:=St.sz_at r j (by simpa using h);simp only[List.getElem_cons_succ,List.length_cons];omega
def St.pre (l:List St) (k:Nat):Nat:=St.szs (l.take k) - k
theorem St.pre_zero (l:List St):St.pre l 0=0:=rfl
theorem St.szs_app (l r:List St):St.szs (l++r)=St.szs l+St.szs r:=by
 induction l with
 | nil=>rw[List.nil_append,St.szs,Nat.zero_add]
 | cons x l ih=>rw[List.cons_append,St.szs,St.szs,ih];omega
theorem St.pre_succ {l:List St}{k:Nat}(h:k<l.length):St.pre l (k+1)=St.pre l k+l[k].sz:=by
 unfold St.pre
 rw[List.take_succ_eq_append_getElem h,St.szs_app,St.szs,St.szs]
 have:=St.szs_ge (l.take k)
 rw[List.length_take,Nat.min_eq_left (by omega)]at this
 omega
theorem St.pre_all (l:List St):l.length+St.pre l l.length=St.szs l:=by
 unfold St.pre
 rw[List.take_length]
 have:=St.szs_ge l
 omega
theorem St.pre_le (l:List St) (k:Nat) (h:k≤l.length):l.length+St.pre l k≤St.szs l:=by
 have e:St.szs l=St.szs (l.take k)+St.szs (l.drop k):=by rw[←St.szs_app,List.take_append_drop]
 have h1:=St.szs_ge (l.take k)
 have h2:=St.szs_ge (l.drop k)
 rw[List.length_take,Nat.min_eq_left h]at h1
 rw[List.length_drop]at h2
 unfold St.pre
 omega
inductive Fu where
 | mk (name:List Int) (params:List Pa) (rk:Int) (rn:Int) (body:List St)
def Fu.name:Fu→List Int|.mk x _ _ _ _=>x
def Fu.params:Fu→List Pa|.mk _ x _ _ _=>x
def Fu.rk:Fu→Int|.mk _ _ x _ _=>x
def Fu.rn:Fu→Int|.mk _ _ _ x _=>x
def Fu.body:Fu→List St|.mk _ _ _ _ x=>x
def Fu.dat:Fu→Dat
 | .mk name params rk rn body=>.agg [.bytes name,.list 3 (Pa.dats params),.int rk,.int rn,.list 8 (St.dats body)]
def Fu.dats:List Fu→List Dat
 | []=>[]
 | x::r=>x.dat::Fu.dats r
def Fu.sz:Fu→Nat
 | .mk name params _ _ body=>name.length+Pa.szs params+St.szs body
def Fu.szs:List Fu→Nat
 | []=>0
 | x::r=>1+x.sz+Fu.szs r
theorem Fu.dats_len (l:List Fu):(Fu.dats l).length=l.length:=by
 induction l with
 | nil=>rfl
 | cons x r ih=>rw[Fu.dats,List.length_cons,List.length_cons,ih]
theorem Fu.dats_at:∀ (l:List Fu) (j:Nat) (h:j<l.length) (h':j<(Fu.dats l).length),(Fu.dats l)[j]=l[j].dat
 | x::r,0,_,_=>rfl
 | x::r,j+1,h,h'=>Fu.dats_at r j (by simpa using h) (by rw[Fu.dats_len];simpa using h)
theorem Fu.view {w:World}{x:Fu}{cs:List Value}(h:RdD w x.dat cs):∃ v0 v1 v2,cs=[v0,v1,.int .i64 x.rk,.int .i64 x.rn,v2]∧RdN w v0 x.name∧RdL w 3 v1 (Pa.dats x.params)∧RdL w 8 v2 (St.dats x.body):=by
 obtain⟨name,params,rk,rn,body⟩:=x
 rw[Fu.dat,RdD]at h
 rw[RdAgg]at h
 obtain⟨c0,d0,rfl,h0,h⟩:=h
 obtain⟨u0,rfl,k0⟩:=RdN.iff.1 h0
 rw[RdAgg]at h
 obtain⟨c1,d1,rfl,h1,h⟩:=h
 obtain⟨u1,rfl,k1⟩:=RdL.iff.1 h1
 rw[RdAgg]at h
 obtain⟨c2,d2,rfl,h2,h⟩:=h
 rw[RdD]at h2
 subst h2
 rw[RdAgg]at h
 obtain⟨c3,d3,rfl,h3,h⟩:=h
 rw[RdD]at h3
 subst h3
 rw[RdAgg]at h
 obtain⟨c4,d4,rfl,h4,h⟩:=h
 obtain⟨u4,rfl,k4⟩:=RdL.iff.1 h4
 rw[RdAgg]at h
 subst h
 exact⟨u0,u1,u4,rfl,k0,k1,k4⟩
theorem Fu.unview {w:World}{x:Fu}{v0 v1 v2:Value}(h0:RdN w v0 x.name) (h1:RdL w 3 v1 (Pa.dats x.params)) (h2:RdL w 8 v2 (St.dats x.body)):RdD w x.dat [v0,v1,.int .i64 x.rk,.int .i64 x.rn,v2]:=by
 obtain⟨name,params,rk,rn,body⟩:=x
 rw[Fu.dat,RdD]
 rw[RdAgg]
 refine⟨[_],_,rfl,RdN.iff.2 ⟨_,rfl,h0⟩,?_⟩
 rw[RdAgg]
 refine⟨[_],_,rfl,RdL.iff.2 ⟨_,rfl,h1⟩,?_⟩
 rw[RdAgg]
 refine⟨[_],_,rfl,by rw[RdD];rfl,?_⟩
 rw[RdAgg]
 refine⟨[_],_,rfl,by rw[RdD];rfl,?_⟩
 rw[RdAgg]
 refine⟨[_],_,rfl,RdL.iff.2 ⟨_,rfl,h2⟩,?_⟩
 rw[RdAgg]
theorem Fu.slice {w:World}{v:Value}{l:List Fu}(h:RdL w 5 v (Fu.dats l)):∃ a cap,v=.slice a l.length cap∧(l.length:Int)≤9223372036854775807:=by
 obtain⟨a,cap,e,hl⟩:=h.slice
 rw[Fu.dats_len]at e hl
 exact⟨a,cap,e,hl⟩
theorem Fu.elem {w:World}{a:Option Addr}{n cap:Nat}{l:List Fu}(h:RdL w 5 (.slice a n cap) (Fu.dats l)) (j:Nat) (hj:j<l.length):∃ g off v0 v1 v2,a=some ⟨g,off,none⟩∧g<w.heap.size∧w.cell? ⟨g,off+j*5,none⟩=some (v0)∧w.cell? ⟨g,off+j*5+1,none⟩=some (v1)∧w.cell? ⟨g,off+j*5+2,none⟩=some (.int .i64 l[j].rk)∧w.cell? ⟨g,off+j*5+3,none⟩=some (.int .i64 l[j].rn)∧w.cell? ⟨g,off+j*5+4,none⟩=some (v2)∧RdN w v0 l[j].name∧RdL w 3 v1 (Pa.dats l[j].params)∧RdL w 8 v2 (St.dats l[j].body):=by
 obtain⟨_,_,e,_,h⟩:=h
 cases e
 obtain⟨g,off,cs,rfl,hg,hk,hc,hd⟩:=h j (by rw[Fu.dats_len];exact hj)
 rw[Fu.dats_at l j hj]at hd
 obtain⟨v0,v1,v2,rfl,r0,r1,r2⟩:=Fu.view hd
 exact⟨g,off,v0,v1,v2,rfl,hg,hc 0 _ rfl,hc 1 _ rfl,hc 2 _ rfl,hc 3 _ rfl,hc 4 _ rfl,r0,r1,r2⟩
theorem Fu.szs_ge (l:List Fu):l.length≤Fu.szs l:=by
 induction l with
 | nil=>exact Nat.le_refl _
 | cons x r ih=>rw[Fu.szs,List.length_cons];omega
theorem Fu.sz_at:∀ (l:List Fu) (j:Nat) (h:j<l.length),l[j].sz+l.length≤Fu.szs l
 | x::r,0,_=>by rw[Fu.szs];have:=Fu.szs_ge r;simp only[List.getElem_cons_zero,List.length_cons];omega
 | x::r,j+1,h=>by rw[Fu.szs];have:=Fu.sz_at r j (by simpa using h);simp only[List.getElem_cons_succ,List.length_cons];omega
def Fu.pre (l:List Fu) (k:Nat):Nat:=Fu.szs (l.take k) - k
theorem Fu.pre_zero (l:List Fu):Fu.pre l 0=0:=rfl
theorem Fu.szs_app (l r:List Fu):Fu.szs (l++r)=Fu.szs l+Fu.szs r:=by
 induction l with
 | nil=>rw[List.nil_append,Fu.szs,Nat.zero_add]
 | cons x l ih=>rw[List.cons_append,Fu.szs,Fu.szs,ih];omega
theorem Fu.pre_succ {l:List Fu}{k:Nat}(h:k<l.length):Fu.pre l (k+1)=Fu.pre l k+l[k].sz:=by
 unfold Fu.pre
 rw[List.take_succ_eq_append_getElem h,Fu.szs_app,Fu.szs,Fu.szs]
 have:=Fu.szs_ge (l.take k)
 rw[List.length_take,Nat.min_eq_left (by omega)]at this
 omega
theorem Fu.pre_all (l:List Fu):l.length+Fu.pre l l.length=Fu.szs l:=by
 unfold Fu.pre
 rw[List.take_length]
 have:=Fu.szs_ge l
 omega
theorem Fu.pre_le (l:List Fu) (k:Nat) (h:k≤l.length):l.length+Fu.pre l k≤Fu.szs l:=by
 have e:Fu.szs l=Fu.szs (l.take k)+Fu.szs (l.drop k):=by rw[←Fu.szs_app,List.take_append_drop]
 have h1:=Fu.szs_ge (l.take k)
 have h2:=Fu.szs_ge (l.drop k)
 rw[List.length_take,Nat.min_eq_left h]at h1
 rw[List.length_drop]at h2
 unfold Fu.pre
 omega
inductive So where
 | mk (structs:List Sc) (funcs:List Fu)
def So.structs:So→List Sc|.mk x _=>x
def So.funcs:So→List Fu|.mk _ x=>x
def So.dat:So→Dat
 | .mk structs funcs=>.agg [.list 2 (Sc.dats structs),.list 5 (Fu.dats funcs)]
def So.sz:So→Nat
 | .mk structs funcs=>Sc.szs structs+Fu.szs funcs
theorem So.view {w:World}{x:So}{cs:List Value}(h:RdD w x.dat cs):∃ v0 v1,cs=[v0,v1]∧RdL w 2 v0 (Sc.dats x.structs)∧RdL w 5 v1 (Fu.dats x.funcs):=by
 obtain⟨structs,funcs⟩:=x
 rw[So.dat,RdD]at h
 rw[RdAgg]at h
 obtain⟨c0,d0,rfl,h0,h⟩:=h
 obtain⟨u0,rfl,k0⟩:=RdL.iff.1 h0
 rw[RdAgg]at h
 obtain⟨c1,d1,rfl,h1,h⟩:=h
 obtain⟨u1,rfl,k1⟩:=RdL.iff.1 h1
 rw[RdAgg]at h
 subst h
 exact⟨u0,u1,rfl,k0,k1⟩
theorem So.unview {w:World}{x:So}{v0 v1:Value}(h0:RdL w 2 v0 (Sc.dats x.structs)) (h1:RdL w 5 v1 (Fu.dats x.funcs)):RdD w x.dat [v0,v1]:=by
 obtain⟨structs,funcs⟩:=x
 rw[So.dat,RdD]
 rw[RdAgg]
 refine⟨[_],_,rfl,RdL.iff.2 ⟨_,rfl,h0⟩,?_⟩
 rw[RdAgg]
 refine⟨[_],_,rfl,RdL.iff.2 ⟨_,rfl,h1⟩,?_⟩
 rw[RdAgg]
end Go.Proofs.YtmdejbphoafjlaaGreatDoor
