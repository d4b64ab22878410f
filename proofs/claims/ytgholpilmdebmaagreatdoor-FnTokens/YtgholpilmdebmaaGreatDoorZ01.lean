import Derived.Test.YtgholpilmdebmaaGreatDoorProg
import Derived.WalkKit
import Derived.WalkSpells
import Derived.WalkLawsBesides
import Derived.Deep.QuietTactic
import Derived.BigQuiet
set_option maxHeartbeats 100000000
set_option maxRecDepth 100000
namespace Go.Proofs.YtgholpilmdebmaaGreatDoor
open Go.RowKit
def Later (w w':World):Prop:=Below w.heap.size w w'
theorem Later.refl (w:World):Later w w:=Below.refl _ _
theorem Later.drew (w:World):Later w w.drew:=(Below.refl _ _).drew
theorem Later.trans {a b c:World}(h:Later a b) (k:Later b c):Later a c:=Below.trans h (Below.mono k h.size)
theorem ret_int {k:IntKind}{a b:Int}(h:a=b):Ending.returned (.int k a)=.returned (.int k b):=by rw[h]
structure OnlyK (K:Nat) (w w':World):Prop where
 os:w'.os=w.os
 tape:w'.tape=w.tape
 output:w'.output=w.output
 size:w.heap.size≤w'.heap.size
 block:∀ k,k<w.heap.size→k≠K→w'.heap[k]?=w.heap[k]?
theorem OnlyK.refl (K:Nat) (w:World):OnlyK K w w:=⟨rfl,rfl,rfl,Nat.le_refl _,fun _ _ _=>rfl⟩
theorem OnlyK.trans {K:Nat}{a b c:World}(h:OnlyK K a b) (k:OnlyK K b c):OnlyK K a c :=
 ⟨k.os.trans h.os,k.tape.trans h.tape,k.output.trans h.output,Nat.le_trans h.size k.size,fun i hi hn=>(k.block i (Nat.lt_of_lt_of_le hi h.size) hn).trans (h.block i hi hn)⟩
theorem OnlyK.drewN {K:Nat}{a w:World}(h:OnlyK K a w) (n:Nat):OnlyK K a (w.drewN n):=h.trans ⟨rfl,rfl,rfl,Nat.le_refl _,fun _ _ _=>rfl⟩
theorem OnlyK.set {K:Nat}{a w:World}(h:OnlyK K a w) (o:Nat) (u:Value):OnlyK K a (w.setCell ⟨K,o,none⟩ u) :=
 h.trans ⟨rfl,rfl,rfl,by simp[World.setCell],fun k _ hn=>Below.heap_setCell _ _ _ _ hn⟩
theorem OnlyK.alloc {K:Nat}{a w:World}(h:OnlyK K a w) (o:Obj):OnlyK K a (w.alloc o) :=
 h.trans ⟨rfl,rfl,rfl,by simp,fun _ hk _=>Below.heap_alloc _ _ _ hk⟩
theorem OnlyK.below {K B:Nat}{w w':World}(h:OnlyK K w w') (hB:B≤K) (hs:B≤w.heap.size):Below B w w' :=
 ⟨h.os,h.tape,h.output,h.size,fun k hk=>h.block k (by omega) (by omega)⟩
theorem OnlyK.later {K B:Nat}{w w':World}(h:Below B w w') (hB:w.heap.size≤B):OnlyK K w w' :=
 ⟨h.os,h.tape,h.output,h.size,fun k hk _=>h.block k (by omega)⟩
structure Cur (B K:Nat) (a:Option Addr) (len cap:Nat) (w:World):Prop where
 c0:w.cell? ⟨K,0,none⟩=some (.slice a len cap)
 c1:∃ i:Int,w.cell? ⟨K,1,none⟩=some (.int .i64 i)∧0≤i∧i≤(len:Int)
 c2:∃ h:Int,w.cell? ⟨K,2,none⟩=some (.int .i64 h)
 f1:w.frozen? ⟨K,1,none⟩=false
 f2:w.frozen? ⟨K,2,none⟩=false
 hB:B≤K
 hK:K<w.heap.size
 hl:(len:Int)≤9223372036854775807
 bs:∀ j,j<len→∃ (bx off:Nat) (v:Int),a=some ⟨bx,off,none⟩∧bx<B∧w.cell? ⟨bx,off+j,none⟩=some (.int .u8 v)∧0≤v∧v≤255
theorem ne_of_off {K o o':Nat}(h:o≠o'):(⟨K,o,none⟩:Addr)≠⟨K,o',none⟩:=by intro e;cases e;exact h rfl
theorem ne_of_block {b K o o':Nat}(h:b≠K):(⟨K,o,none⟩:Addr)≠⟨b,o',none⟩:=by intro e;cases e;exact h rfl
theorem zdt {w:World}{a:Addr}{u v:Value}(h:w.cell? a=some u):(w.setCell a v).cell? a=some v:=World.cell?_setCell_same' w a v (by rw[h];rfl)
theorem set_off (w:World) (K:Nat) {o o':Nat}(v:Value) (h:o≠o'):(w.setCell ⟨K,o,none⟩ v).cell? ⟨K,o',none⟩=w.cell? ⟨K,o',none⟩:=by
 apply World.cell?_setCell_other;exact ne_of_off h
theorem set_block (w:World) {b K:Nat}(o o':Nat) (v:Value) (h:b≠K):(w.setCell ⟨K,o,none⟩ v).cell? ⟨b,o',none⟩=w.cell? ⟨b,o',none⟩:=by
 apply World.cell?_setCell_other;exact ne_of_block h
theorem Cur.drewN {B K:Nat}{a:Option Addr}{len cap:Nat}{w:World}(h:Cur B K a len cap w) (n:Nat):Cur B K a len cap (w.drewN n) :=
 ⟨h.c0,h.c1,h.c2,h.f1,h.f2,h.hB,h.hK,h.hl,h.bs⟩
theorem Cur.set2 {B K:Nat}{a:Option Addr}{len cap:Nat}{w:World}(h:Cur B K a len cap w) (x:Int):Cur B K a len cap (w.setCell ⟨K,2,none⟩ (.int .i64 x)):=by
 obtain⟨h0,hc2⟩:=h.c2;refine⟨?_,?_,⟨x,zdt hc2⟩,?_,?_,h.hB,?_,h.hl,?_⟩
 ·rw[set_off _ _ _ (by decide)];exact h.c0
 ·obtain⟨i,hi,hi'⟩:=h.c1;exact⟨i,by rw[set_off _ _ _ (by decide)];exact hi,hi'⟩
 ·rw[World.frozen?_setCell];exact h.f1
 ·rw[World.frozen?_setCell];exact h.f2
 ·have:=h.hK;simpa[World.setCell] using this
 ·intro j hj;obtain⟨bx,off,v,e1,e2,e3,e4⟩:=h.bs j hj;have:=h.hB;exact⟨bx,off,v,e1,e2,by rw[set_block _ _ _ _ (by omega)];exact e3,e4⟩
theorem Cur.set1 {B K:Nat}{a:Option Addr}{len cap:Nat}{w:World}(h:Cur B K a len cap w) (x:Int) (hx:0≤x) (hx':x≤(len:Int)):Cur B K a len cap (w.setCell ⟨K,1,none⟩ (.int .i64 x)):=by
 obtain⟨i,hi,_⟩:=h.c1;refine⟨?_,⟨x,zdt hi,hx,hx'⟩,?_,?_,?_,h.hB,?_,h.hl,?_⟩
 ·rw[set_off _ _ _ (by decide)];exact h.c0
 ·obtain⟨i,hi⟩:=h.c2;exact⟨i,by rw[set_off _ _ _ (by decide)];exact hi⟩
 ·rw[World.frozen?_setCell];exact h.f1
 ·rw[World.frozen?_setCell];exact h.f2
 ·have:=h.hK;simpa[World.setCell] using this
 ·intro j hj;obtain⟨bx,off,v,e1,e2,e3,e4⟩:=h.bs j hj;have:=h.hB;exact⟨bx,off,v,e1,e2,by rw[set_block _ _ _ _ (by omega)];exact e3,e4⟩
theorem Cur.later {B K:Nat}{a:Option Addr}{len cap:Nat}{w w':World}(h:Cur B K a len cap w) (hb:Below (K+1) w w'):Cur B K a len cap w':=by
 have hc:∀ o,w'.cell? ⟨K,o,none⟩=w.cell? ⟨K,o,none⟩:=fun o=>hb.cell (p:=⟨K,o,none⟩) (Nat.lt_succ_self K);have hf:∀ o,w'.frozen? ⟨K,o,none⟩=w.frozen? ⟨K,o,none⟩:=fun o=>hb.frozen (p:=⟨K,o,none⟩) (Nat.lt_succ_self K);refine⟨by rw[hc];exact h.c0,?_,?_,by rw[hf];exact h.f1,by rw[hf];exact h.f2,h.hB,Nat.lt_of_lt_of_le h.hK hb.size,h.hl,?_⟩
 ·obtain⟨i,hi,hi'⟩:=h.c1;exact⟨i,by rw[hc];exact hi,hi'⟩
 ·obtain⟨i,hi⟩:=h.c2;exact⟨i,by rw[hc];exact hi⟩
 ·intro j hj;obtain⟨bx,off,v,e1,e2,e3,e4⟩:=h.bs j hj;have:=h.hB;exact⟨bx,off,v,e1,e2,by rw[hb.cell (p:=⟨bx,off+j,none⟩) (show bx<K+1 by omega)];exact e3,e4⟩
theorem i64_and255 (n:Int):bits .and .i64 n 255=n % 256:=by
 have h255:(BitVec.ofInt 64 255).toNat=2 ^ 8 - 1:=by decide
 have key:(BitVec.ofInt 64 n &&& BitVec.ofInt 64 255).toNat=(n % ((2 ^ 64:Nat):Int)).toNat % 2 ^ 8:=by
  rw[BitVec.toNat_and,BitVec.toNat_ofInt,h255,Nat.and_two_pow_sub_one_eq_mod]
 show IntKind.i64.wrap ((BitVec.ofInt 64 n &&& BitVec.ofInt 64 255).toNat:Nat)=n % 256;rw[key,IntKind.wrap_i64];omega
theorem and255_lo (n:Int):0≤bits .and .i64 n 255:=by rw[i64_and255];omega
theorem and255_hi (n:Int):bits .and .i64 n 255≤255:=by rw[i64_and255];omega
theorem byte_end (K:Nat) (a:Option Addr) (len cap:Nat) (i h:Int) (w:World) (c0:w.cell? ⟨K,0,none⟩=some (.slice a len cap)) (c1:w.cell? ⟨K,1,none⟩=some (.int .i64 i)) (c2:w.cell? ⟨K,2,none⟩=some (.int .i64 h))
  (f2:w.frozen? ⟨K,2,none⟩=false) (hi:¬ i<(len:Int)) :
  Calls Tryz.prog 45 #[.pointer (some ⟨K,0,none⟩)] w fun e w'=>∃ (v h':Int) (n m:Nat),e=.returned (.int .i64 v)∧0≤v∧v≤255∧w'=((w.setCell ⟨K,2,none⟩ (.int .i64 h')).drewN n).drewN m:=by
 go_enter Tryz.func45,Tryz.ntmps45;go_wp2
 go_quiet (fail)
 go_wp2
 go_quiet (fail)
 go_wp2
 go_ret;exact⟨_,_,_,_,rfl,and255_lo _,and255_hi _,rfl⟩
theorem byte_more (K:Nat) (bx off len cap:Nat) (i h v0:Int) (w:World) (c0:w.cell? ⟨K,0,none⟩=some (.slice (some ⟨bx,off,none⟩) len cap)) (c1:w.cell? ⟨K,1,none⟩=some (.int .i64 i)) (c2:w.cell? ⟨K,2,none⟩=some (.int .i64 h))
  (f1:w.frozen? ⟨K,1,none⟩=false) (f2:w.frozen? ⟨K,2,none⟩=false) (hi:i<(len:Int)) (hi0:0≤i) (hl:(len:Int)≤9223372036854775807)
  (cv:∀ x,(w.setCell ⟨K,2,none⟩ x).cell? ⟨bx,off+i.toNat,none⟩=some (.int .u8 v0)) (hv0:0≤v0) (hv1:v0≤255) :
  Calls Tryz.prog 45 #[.pointer (some ⟨K,0,none⟩)] w fun e w'=>∃ (v h':Int) (n:Nat),e=.returned (.int .i64 v)∧0≤v∧v≤255∧w'=((w.setCell ⟨K,2,none⟩ (.int .i64 h')).drewN n).setCell ⟨K,1,none⟩ (.int .i64 (i+1)):=by
 go_enter Tryz.func45,Tryz.ntmps45;go_wp2
 go_quiet (fail)
 go_wp2
 go_quiet (fail)
 go_wp2
 go_quiet (fail)
 go_wp2
 go_ret;exact⟨_,_,_,rfl,and255_lo _,and255_hi _,rfl⟩
theorem byte_any {B K:Nat}{a:Option Addr}{len cap:Nat}{w:World}(hc:Cur B K a len cap w) :
  Calls Tryz.prog 45 #[.pointer (some ⟨K,0,none⟩)] w fun e w'=>∃ v:Int,e=.returned (.int .i64 v)∧0≤v∧v≤255∧Cur B K a len cap w'∧OnlyK K w w':=by
 obtain⟨i,c1,i0,i1⟩:=hc.c1;obtain⟨h,c2⟩:=hc.c2;by_cases hi:i<(len:Int)
 ·obtain⟨bx,off,v0,rfl,hbx,cv,v1,v2⟩:=hc.bs i.toNat (by omega);have hB:=hc.hB;refine (byte_more K bx off len cap i h v0 w hc.c0 c1 c2 hc.f1 hc.f2 hi i0 hc.hl (fun x=>by rw[set_block _ _ _ _ (by omega)];exact cv) v1 v2).mono ?_;rintro e w' ⟨v,h',n,rfl,a1,a2,rfl⟩;exact⟨v,rfl,a1,a2,((hc.set2 h').drewN n).set1 (i+1) (by omega) (by omega),(((OnlyK.refl K w).set 2 _).drewN n).set 1 _⟩
 ·refine (byte_end K a len cap i h w hc.c0 c1 c2 hc.f2 hi).mono ?_;rintro e w' ⟨v,h',n,m,rfl,a1,a2,rfl⟩;exact⟨v,rfl,a1,a2,((hc.set2 h').drewN n).drewN m,(((OnlyK.refl K w).set 2 _).drewN n).drewN m⟩
structure At (B K:Nat) (a:Option Addr) (len cap:Nat) (w0 w:World):Prop where
 cur:Cur B K a len cap w
 only:OnlyK K w0 w
theorem At.start {B K:Nat}{a:Option Addr}{len cap:Nat}{w:World}(h:Cur B K a len cap w):At B K a len cap w w:=⟨h,OnlyK.refl _ _⟩
theorem At.later {B K:Nat}{a:Option Addr}{len cap:Nat}{w0 w w':World}(h:At B K a len cap w0 w) (hb:Later w w'):At B K a len cap w0 w' :=
 ⟨h.cur.later (Below.mono hb (by have:=h.cur.hK;omega)),h.only.trans (OnlyK.later hb (Nat.le_refl _))⟩
theorem At.alloc {B K:Nat}{a:Option Addr}{len cap:Nat}{w0 w:World}(h:At B K a len cap w0 w) (o:Obj):At B K a len cap w0 (w.alloc o) :=
 h.later ((Below.refl _ _).alloc (Nat.le_refl _) o)
theorem byte_at {B K:Nat}{a:Option Addr}{len cap:Nat}{w0 w:World}(h:At B K a len cap w0 w) :
  Calls Tryz.prog 45 #[.pointer (some ⟨K,0,none⟩)] w fun e w'=>∃ v:Int,e=.returned (.int .i64 v)∧0≤v∧v≤255∧At B K a len cap w0 w':=by
 refine (byte_any h.cur).mono ?_;rintro e w' ⟨v,rfl,v0,v1,hc,ho⟩;exact⟨v,rfl,v0,v1,hc,h.only.trans ho⟩
theorem zcd {B K:Nat}{a:Option Addr}{len cap:Nat}{w0 w:World}(h:At B K a len cap w0 w) (n:Int) (h0:0<n) (h1:n≤2147483647) :
  Calls Tryz.prog 39 #[.pointer (some ⟨K,0,none⟩),.int .i64 n] w fun e w'=>∃ v:Int,e=.returned (.int .i64 v)∧0≤v∧v<n∧At B K a len cap w0 w':=by
 by_cases h2:n≤256
 all_goals
  go_enter Tryz.func39,Tryz.ntmps39;go_wp2_with (go_at_call 45;refine (byte_at (by assumption)).mono ?_;rintro e w1 ⟨v,rfl,v0,v1,hc1⟩)
  go_ret;exact⟨_,rfl,Int.emod_nonneg _ (by omega),Int.emod_lt_of_pos _ h0,hc1⟩
theorem once_at {B K:Nat}{a:Option Addr}{len cap:Nat}{w0 w:World}(h:At B K a len cap w0 w) (n:Int) (h0:0<n) (h1:n≤2147483647) :
  Calls Tryz.prog 23 #[.pointer (some ⟨K,0,none⟩),.int .i64 n] w fun e w'=>∃ b:Bool,e=.returned (.bool b)∧At B K a len cap w0 w':=by
 go_enter Tryz.func23,Tryz.ntmps23;go_wp2_with (go_at_call 39;refine (zcd h n h0 h1).mono ?_;rintro e w1 ⟨v,rfl,v0,v1,hc1⟩)
 go_ret;exact⟨_,rfl,hc1⟩
def InR (v:Int):Prop:=-9223372036854775808≤v∧v≤9223372036854775807
theorem pick_any {B K L:Nat}{a:Option Addr}{len cap:Nat}{w:World}(h:Cur B K a len cap w) (m:Nat) (h0:0<m) (h1:m≤1000) (hL:L≠K) (hLs:L<w.heap.size)
  (hcs:∀ j,j<m→∃ v:Int,w.cell? ⟨L,j,none⟩=some (.int .i64 v)∧InR v) :
  Calls Tryz.prog 112 #[.pointer (some ⟨K,0,none⟩),.slice (some ⟨L,0,none⟩) m m] w fun e w'=>∃ v:Int,e=.returned (.int .i64 v)∧InR v∧At B K a len cap w w':=by
 have hm0:(0:Int)<(m:Int):=by omega
 have hm1:(m:Int)≤2147483647:=by omega
 go_enter Tryz.func112,Tryz.ntmps112;go_wp2_with (go_at_call 39;refine (zcd (At.start h) _ hm0 hm1).mono ?_;rintro e w1 ⟨v,rfl,v0,v1,hc1⟩;obtain⟨z,hz,hzr⟩:=hcs v.toNat (by omega);have hz1:w1.cell? ⟨L,v.toNat,none⟩=some (.int .i64 z):=((World.cell?_of_block (w:=w) (hc1.only.block L hLs hL)).trans hz))
 go_ret;exact⟨_,rfl,hzr,hc1⟩
theorem bits_inR (op:BinOp) (x y:Int):InR (bits op .i64 x y):=by
 have:∀ n:Int,InR (IntKind.i64.wrap n):=fun n=>by rw[IntKind.wrap_i64];unfold InR;omega
 unfold bits;exact this _
def goodInt:Value→Bool
 | .int .i64 n=>decide (-9223372036854775808≤n)&&decide (n≤9223372036854775807)
 | _=>false
theorem goodInt_of {v:Value}(h:goodInt v=true):∃ n:Int,v=.int .i64 n∧InR n:=by
 unfold goodInt at h;split at h
 ·rename_i n
  rw[Bool.and_eq_true,decide_eq_true_eq,decide_eq_true_eq]at h;exact⟨n,rfl,h⟩
 ·cases h
theorem goodInts_get {cs:Array Value}(h:cs.toList.all goodInt=true) {j:Nat}(hj:j<cs.size):∃ n:Int,cs[j]?=some (.int .i64 n)∧InR n:=by
 have h1:cs[j]?=some cs[j]:=Array.getElem?_eq_getElem hj;have h2:goodInt cs[j]=true:=List.all_eq_true.1 h _ (by simp);obtain⟨n,e,hn⟩:=goodInt_of h2;exact⟨n,by rw[h1,e],hn⟩
theorem pick_at {B K:Nat}{a:Option Addr}{len cap:Nat}{w0 w:World}(h:At B K a len cap w0 w) (cs:Array Value) (m:Nat) (hm:cs.size=m) (h0:0<m) (h1:m≤1000) (hg:cs.toList.all goodInt=true) :
  Calls Tryz.prog 112 #[.pointer (some ⟨K,0,none⟩),.slice (some ⟨w.heap.size,0,none⟩) m m] (w.alloc (.cells cs 3)) fun e w'=>∃ v:Int,e=.returned (.int .i64 v)∧InR v∧At B K a len cap w0 w':=by
 have h2:=h.alloc (.cells cs 3);refine (pick_any (L:=w.heap.size) h2.cur m h0 h1 (by have:=h.cur.hK;omega) (by simp) ?_).mono ?_
 ·intro j hj;obtain⟨n,hn,hr⟩:=goodInts_get hg (j:=j) (by omega);refine⟨n,?_,hr⟩;rw[←hn];simp
 ·rintro e w' ⟨v,rfl,hv,hat⟩;exact⟨v,rfl,hv,hat.cur,h2.only.trans hat.only⟩
theorem pick10_at {B K:Nat}{a:Option Addr}{len cap:Nat}{w0 w:World}(h:At B K a len cap w0 w) :
  Calls Tryz.prog 112 #[.pointer (some ⟨K,0,none⟩),.slice (some ⟨w.heap.size,0,none⟩) 10 10] (w.alloc (.cells #[.int .i64 0,.int .i64 1,.int .i64 (-1),.int .i64 2,.int .i64 9223372036854775807,.int .i64 (-9223372036854775808),.int .i64 2147483647,.int .i64 (-2147483648),.int .i64 4611686018427387904,.int .i64 9007199254740993] 3)) fun e w'=>∃ v:Int,e=.returned (.int .i64 v)∧InR v∧At B K a len cap w0 w' :=
 pick_at h _ 10 rfl (by decide) (by decide) (by decide +kernel)
theorem int_at {B K:Nat}{a:Option Addr}{len cap:Nat}{w0 w:World}(h:At B K a len cap w0 w) :
  Calls Tryz.prog 128 #[.pointer (some ⟨K,0,none⟩)] w fun e w'=>∃ v:Int,e=.returned (.int .i64 v)∧InR v∧At B K a len cap w0 w':=by
 go_enter Tryz.func128,Tryz.ntmps128;go_wp2_with (first|(go_at_call 39;refine (zcd (by assumption) _ (by decide) (by decide)).mono ?_;rintro e w1 ⟨v,rfl,v0,v1,hc1⟩)|(go_at_call 112;refine (pick10_at (by assumption)).mono ?_;rintro e w2 ⟨v2,rfl,hv2,hc2⟩))
 ·go_ret;exact⟨_,rfl,hv2,hc2⟩
 ·go_ret;exact⟨_,rfl,by unfold InR;omega,hc1⟩
 ·go_ret;exact⟨_,rfl,by unfold InR;omega,hc1⟩
 ·go_ret;exact⟨_,rfl,by unfold InR;omega,hc1⟩
 ·rename (v==0)=false=>g0
  rename (v==1)=false=>g1
  rename (v==2)=false=>g2
  rename (v==3)=false=>g3
  clear g0 g1 g2 g3;go_loopw [3,4] (fun x i w'=>∃ (k:Nat) (z:Int),x=.int .i64 z∧InR z∧i=.int .i64 (k:Int)∧k≤8∧At B K a len cap w0 w') (fun _ i _=>8 - (intOf i).toNat)
  case atStart=>exact⟨0,0,rfl,by unfold InR;omega,rfl,by decide,hc1⟩
  case round =>
   obtain⟨k,z,rfl,hz,rfl,hk,hat⟩:=hrel;by_cases hlt:k<8
   ·go_wp2_with (go_at_call 45;refine (byte_at hat).mono ?_;rintro e w3 ⟨u,rfl,u0,u1,hc3⟩)
    go_roundw
    case rel=>exact⟨k+1,_,rfl,bits_inR _ _ _,by go_num,by omega,hc3⟩
    case measure=>simp[intOf];omega
   ·go_wp2
    go_ret;exact⟨_,rfl,hz,hat⟩
theorem later1 (w:World) (o:Obj):Later w (w.alloc o):=(Below.refl _ _).alloc (Nat.le_refl _) _
theorem zar {w w':World}(h:Later w w') (n:Nat):Later w (w'.drewN n):=below_drewN h n
theorem zaf {a b:Bool}(h:a=b):Ending.returned (.bool a)=.returned (.bool b):=by rw[h]
theorem eq_of_getD {xs ys:List Int}(hl:xs.length=ys.length) (h:∀ j,j<xs.length→xs.getD j 0=ys.getD j 0):xs=ys:=by
 apply List.ext_getElem hl
 intro j h1 h2;have:=h j h1
 rwa [List.getD_eq_getElem?_getD,List.getD_eq_getElem?_getD,List.getElem?_eq_getElem h1,List.getElem?_eq_getElem h2]at this
def isB (z:Int):Prop:=0≤z∧z≤255
def RdB (w:World) (v:Value) (zs:List Int):Prop :=
 ∃ a cap,v=.slice a zs.length cap∧(zs.length:Int)≤9223372036854775807∧(∀ j,isB (zs.getD j 0)) ∧
  ∀ j,j<zs.length→∃ g off,a=some ⟨g,off,none⟩∧g<w.heap.size∧w.cell? ⟨g,off+j,none⟩=some (.int .u8 (zs.getD j 0))
theorem RdB.later {w w':World}{v:Value}{zs:List Int}(h:RdB w v zs) (hb:Later w w'):RdB w' v zs:=by
 obtain⟨a,cap,rfl,hl,hz,hc⟩:=h;refine⟨a,cap,rfl,hl,hz,fun j hj=>?_⟩;obtain⟨g,off,rfl,hg,hv⟩:=hc j hj;exact⟨g,off,rfl,Nat.lt_of_lt_of_le hg hb.size,by rw[Below.cell hb (p:=⟨g,off+j,none⟩) hg];exact hv⟩
theorem RdB.nil (w:World):RdB w (.slice none 0 0) []:=⟨none,0,rfl,by decide,fun _=>⟨by simp,by simp⟩,fun j hj=>absurd hj (Nat.not_lt_zero _)⟩
theorem Tryz.info5:(Tryz.prog.info? 5).map (fun i=>(i.zero,i.size,i.bytes))=some (some (.int .u8 0),1,1):=by kernel_rfl
end Go.Proofs.YtgholpilmdebmaaGreatDoor
