import Derived.Test.YtgaddpkkjebekaaGreatDoorZ26
import Derived.Handy
import Derived.Laws.BytesArg
set_option maxHeartbeats 100000000
set_option maxRecDepth 100000
namespace Go.Proofs.YtgaddpkkjebekaaGreatDoor
open Go.RowKit Go.Lib
def KP (K:Nat) (A w:World):Prop:=A.heap.size<=w.heap.size/\∀ (k:Nat) (C:Array Value) (t:TypeId) (fz:Nat × Nat),k≠K->A.heap[k]?=some (.cells C t fz)->t≠5->w.heap[k]?=A.heap[k]?
theorem KP.refl (K:Nat) (w:World):KP K w w:=⟨Nat.le_refl _,fun _ _ _ _ _ _ _=>rfl⟩
theorem KP.trans {K:Nat}{a b c:World}(h:KP K a b) (g:KP K b c):KP K a c:=⟨Nat.le_trans h.1 g.1,fun k C t fz hn hk ht=>by
 have e:=h.2 k C t fz hn hk ht
 rw[g.2 k C t fz hn (by rw[e];exact hk) ht,e]⟩
theorem K8.kp {a b:World}(K:Nat) (h:K8 a b):KP K a b:=⟨h.1,fun k C t fz _ hk ht=>h.2 k C t fz hk ht⟩
theorem ny (w:World) (K i:Nat) (u:Value):w.grownBy (w.setCell ⟨K,i,none⟩ u) (some K):=⟨rfl,rfl,rfl,by simp,fun k _ hk=>heap_setCell_other w ⟨K,i,none⟩ k u (fun e=>hk (by simp[e]))⟩
theorem UY (w:World) (K i:Nat) (u:Value):KP K w (w.setCell ⟨K,i,none⟩ u):=⟨(ny w K i u).size,fun k _ _ _ hn hk _=>(ny w K i u).block k (lt_of_some hk) (fun e=>hn (by cases e;rfl))⟩
structure Pr (K:Nat) (A W w:World) (sv tv:Value) (zs:List Int):Prop where
 row:w.heap[K]?=some (.cells #[sv,tv] 90)
 own:w.ownsRow W.heap.size 5 1 tv zs.length (zs.map (Value.int .u8))
 lat:Later W w
 new:W.heap.size<=K
 kp:KP K A w
theorem Pr.ne {K:Nat}{A W w:World}{sv tv:Value}{zs:List Int}(h:Pr K A W w sv tv zs):tv.ownBlock≠some K:=fun e=>by
 rcases h.own.2 with ⟨rfl,_⟩|⟨g,cap,cur,rfl,_,hg,_⟩
 ·cases e
 ·have e':g=K:=by cases e;rfl
  rw[e',h.row]at hg;simp at hg
theorem Pr.later {K:Nat}{A W w w':World}{sv tv:Value}{zs:List Int}(h:Pr K A W w sv tv zs) (l:Later w w'):Pr K A W w' sv tv zs :=
 ⟨by rw[l.block K (lt_of_some h.row)];exact h.row,Iu h.own l,h.lat.trans l,h.new,h.kp.trans (l.k8.kp K)⟩
theorem Pr.alloc {K:Nat}{A W w:World}{sv tv:Value}{zs:List Int}(h:Pr K A W w sv tv zs) (o:Obj):Pr K A W (w.alloc o) sv tv zs:=h.later (ae _ _)
theorem Pr.text {K:Nat}{A W w:World}{sv tv:Value}{zs:List Int}(h:Pr K A W w sv tv zs):w.cell? ⟨K,1,none⟩=some tv:=by
 show (match w.heap[K]? with|some (.cells c _ _)=>c[1]?|_=>none)=some tv;rw[h.row];rfl
theorem Pr.structs {K:Nat}{A W w:World}{sv tv:Value}{zs:List Int}(h:Pr K A W w sv tv zs):w.cell? ⟨K,0,none⟩=some sv:=by
 show (match w.heap[K]? with|some (.cells c _ _)=>c[0]?|_=>none)=some sv;rw[h.row];rfl
theorem Pr.put {K:Nat}{A W w w3:World}{sv tv v3:Value}{zs ts:List Int}{n:Nat}{X:List Value}(h:Pr K A W w sv tv zs) (o:w3.ownsRow W.heap.size 5 1 v3 (zs.length+n) (zs.map (Value.int .u8)++X)) (hn:n=ts.length) (hX:X=ts.map (Value.int .u8)) (g:w.grownBy w3 tv.ownBlock) :
  w3.heap[K]?=some (.cells #[sv,tv] 90)/\Pr K A W (w3.setCell ⟨K,1,none⟩ v3) sv v3 (zs++ts):=by
 subst hn hX;have hr:w3.heap[K]?=some (.cells #[sv,tv] 90):=by rw[g.block K (lt_of_some h.row) (fun e=>h.ne e.symm)];exact h.row
 have hne:v3.ownBlock=none\/v3.ownBlock≠some K:=.inr fun e=>by
  rcases o.2 with ⟨rfl,_⟩|⟨g',cap,cur,rfl,_,hg,_⟩
  ·cases e
  ·have e':g'=K:=by cases e;rfl
   rw[e',hr]at hg;simp at hg
 have hL:Later W w3:=h.lat.trans' g (OJ h.own);refine⟨hr,?_,?_,?_,h.new,?_⟩
 ·rw[heap_setCell_same w3 K 1 _ _ v3 hr];rfl
 ·rw[List.length_append,List.map_append];exact o.kept (ny w3 K 1 v3) hne
 ·exact hL.trans' (v:=.slice (some ⟨K,0,none⟩) 0 0) (ny w3 K 1 v3) (fun b e=>by cases e;exact h.new)
 ·exact (h.kp.trans ((K8.grown h.own g).kp K)).trans (UY w3 K 1 v3)
theorem Pr.shape {K:Nat}{A W w:World}{sv tv:Value}{zs:List Int}(h:Pr K A W w sv tv zs):∃ a M cap,tv=.slice a M cap/\Hid (M=zs.length):=by
 rcases h.own.2 with ⟨rfl,h0⟩|⟨g,cap,_,rfl,_⟩
 ·exact⟨_,_,_,rfl,by rw[h0];rfl⟩
 ·exact⟨_,_,_,rfl,rfl⟩
theorem qZ {K:Nat}{w:World}{sv tv:Value}(hr:w.heap[K]?=some (.cells #[sv,tv] 90)):w.cell? ⟨K,1,none⟩=some tv/\w.frozen? ⟨K,1,none⟩=false:=by
 refine⟨?_,?_⟩
 ·show (match w.heap[K]? with|some (.cells c _ _)=>c[1]?|_=>none)=some tv;rw[hr];rfl
 ·simp[World.frozen?,hr]
def PrP (K:Nat) (A W:World) (sv:Value) (zs:List Int) (e:Ending) (w':World):Prop:=e=.returned (.tuple #[])/\∃ tv,Pr K A W w' sv tv zs
theorem je (K:Nat) (A W w:World) (sv tv:Value) (zs:List Int) (h:Pr K A W w sv tv zs) (hb:zs.length<=1000000) :
  Calls Tryz.prog 79 #[.pointer (some ⟨K,0,none⟩)] w (PrP K A W sv (zs++[10])):=by
 obtain⟨i0,hi,hz0,hz1,hz2⟩:=info_parts Tryz.info5;obtain⟨a,M,cap,rfl,hM⟩:=h.shape;have q1:=h.text;have hK:=lt_of_some h.row;have hB:=h.alloc (.cells #[.int .u8 10] 5);go_enter Tryz.func79,Tryz.ntmps79;go_wp2_with (at_builtin;refine wpList_append_own _ rfl _ _ 22 rfl W.heap.size 5 i0 (.int .u8 0) 1 1 Tryz.underlying22 hi hz0 hz1 hz2 rfl (by decide) (.slice a M cap) _ _ rfl hB.own ⟨w.heap.size,0,none⟩ 1 1 [.int .u8 10] rfl rfl (Fg _ _) (by simp[Value.oneCell']) (by unfold maxLen;omega) (by omega) hB.lat.size ?_;intro v3 w3 o3 g3 _;obtain⟨hr3,hp3⟩:=hB.put o3 (ts:=[10]) rfl rfl g3;obtain⟨q3,f3⟩:=qZ hr3;clear hr3;obtain⟨a3,M3,p3,rfl,hM3⟩:=hp3.shape)
 refine bodyPost_end (results_none rfl _ _ _) rfl ?_;exact⟨rfl,_,hp3⟩
def bytesOf (s:ByteArray):List Int:=s.data.toList.map fun b=>(b.toNat:Int)
theorem zK (s:ByteArray):strCells s=(bytesOf s).map (Value.int .u8):=by
 unfold strCells bytesOf;rw[List.map_map];rfl
theorem yP (s:ByteArray):(bytesOf s).length=s.size:=by
 unfold bytesOf;rw[List.length_map,Array.length_toList];rfl
def gB (b:List Int):List (List Int)->List Int
 | []=>b
 | t::r=>gB (xP b t) r
theorem zU:∀ (ts:List (List Int)) (b:List Int) (j:Nat) (h:j<ts.length),gB b (ts.take (j+1))=xP (gB b (ts.take j)) ts[j]
 | t::r,b,0,_=>by simp[gB]
 | t::r,b,j+1,h=>by
  rw[List.take_succ_cons,List.take_succ_cons,gB,gB];exact zU r _ j (by simpa using h)
def zT:List (List Int)->Nat
 | []=>0
 | t::r=>t.length+1+zT r
theorem Oh (b t:List Int):(xP b t).length<=b.length+(t.length+1):=by
 unfold xP;by_cases h:aV b=true
 ·rw[if_pos h,List.length_append,List.length_cons];omega
 ·rw[if_neg h,List.length_append];omega
theorem zV:∀ (ts:List (List Int)) (b:List Int) (j:Nat) (h:j<ts.length),(gB b (ts.take j)).length+(ts[j].length+1)<=b.length+zT ts
 | t::r,b,0,_=>by simp[gB,zT]
 | t::r,b,j+1,h=>by
  have:=zV r (xP b t) j (by simpa using h);have h2:=Oh b t;rw[List.take_succ_cons,gB,zT];simp only[List.getElem_cons_succ];omega
theorem Pr.from {K:Nat}{A W w:World}{sv tv:Value}{zs:List Int}(h:Pr K A W w sv tv zs):Pr K w W w sv tv zs:=⟨h.row,h.own,h.lat,h.new,KP.refl K w⟩
theorem Pr.back {K:Nat}{A B W w:World}{sv tv:Value}{zs:List Int}(h:Pr K B W w sv tv zs) (k:KP K A B):Pr K A W w sv tv zs:=⟨h.row,h.own,h.lat,h.new,k.trans h.kp⟩
def BN (w:World) (g:Nat) (ss:List ByteArray):Prop:=∃ fz,w.heap[g]?=some (.cells (ss.map Value.string).toArray 9 fz)
theorem BN.at {K:Nat}{A W w:World}{sv tv:Value}{zs:List Int}{g:Nat}{ss:List ByteArray}(t:BN w g ss) (h:Pr K A W w sv tv zs) {w':World}(k:KP K w w') (j:Nat) (hj:j<ss.length):w'.cell? ⟨g,j,none⟩=some (.string ss[j]):=by
 obtain⟨fz,hg⟩:=t;have hne:g≠K:=fun e=>by rw[e,h.row]at hg;simp at hg
 have hg':w'.heap[g]?=some (.cells (ss.map Value.string).toArray 9 fz):=by rw[k.2 g _ _ _ hne hg (by decide)];exact hg
 show (match w'.heap[g]? with|some (.cells c _ _)=>c[j]?|_=>none)=_;rw[hg'];simp[hj]
theorem Pr.last {K:Nat}{A W w:World}{sv tv:Value}{zs:List Int}(h:Pr K A W w sv tv zs) (N:Nat) (hN:zs.length=N+1):∃ g cap,tv=.slice (some ⟨g,0,none⟩) (N+1) cap/\w.cell? ⟨g,N,none⟩=some (.int .u8 (zs.getLast?.getD 0)):=by
 obtain⟨g,q,e,_,_,hc⟩:=Lt h.own (by omega);refine⟨g,q,by rw[e,hN],?_⟩;have:=hc N (.int .u8 (zs.getLast?.getD 0)) (by rw[List.getElem?_map,List.getLast?_eq_getElem?,hN];simp[hN]);simpa[Addr.add_lit] using this
theorem put_any (K g:Nat) (A W w:World) (sv tv:Value) (zs:List Int) (ss:List ByteArray) (h:Pr K A W w sv tv zs) (ht:BN w g ss) (hs:ss.length<=1000) (hb:zs.length+zT (ss.map bytesOf)<=1000000) :
  Calls Tryz.prog 78 #[.pointer (some ⟨K,0,none⟩),.slice (some ⟨g,0,none⟩) ss.length ss.length] w (PrP K A W sv (gB zs (ss.map bytesOf))):=by
 obtain⟨i0,hi,hz0,hz1,hz2⟩:=info_parts Tryz.info5;have HT:Hid (∀ w',KP K w w'->∀ j (hj:j<ss.length),w'.cell? ⟨g,j,none⟩=some (.string ss[j])):=fun w' k j hj=>ht.at h k j hj
 have HF:Hid (∀ w' tv',Pr K w W w' sv tv' (gB zs (ss.map bytesOf))->PrP K A W sv (gB zs (ss.map bytesOf)) (.returned (.tuple #[])) w'):=fun w' tv' hp=>⟨rfl,tv',hp.back h.kp⟩
 have hp0:=h.from
 have hroom:Hid (∀ j (hj:j<ss.length),(gB zs ((ss.map bytesOf).take j)).length+((bytesOf ss[j]).length+1)<=1000000):=fun j hj=>by
  have:=zV (ss.map bytesOf) zs j (by simpa using hj);rw[List.getElem_map]at this;omega
 have hstep:Hid (∀ j (hj:j<ss.length),gB zs ((ss.map bytesOf).take (j+1))=xP (gB zs ((ss.map bytesOf).take j)) (bytesOf ss[j])):=fun j hj=>by
  rw[zU _ _ j (by simpa using hj),List.getElem_map]
 have hend:Hid ((ss.map bytesOf).take ss.length=ss.map bytesOf):=by
  show List.take _ _=_;rw[show ss.length=(ss.map bytesOf).length by simp,List.take_length]
 generalize hQ:PrP K A W sv (gB zs (ss.map bytesOf))=Q
 rw[hQ]at HF;clear hQ ht h hb;go_enter Tryz.func78,Tryz.ntmps78;go_wp2_with fail
 go_loopw [8] (fun i wr=>∃ (j:Nat) (tv':Value),i=.int .i64 (j:Int)/\j<=ss.length/\Pr K w W wr sv tv' (gB zs ((ss.map bytesOf).take j))) (fun i _=>ss.length - (intOf i).toNat)
 case atStart=>exact⟨0,tv,rfl,Nat.zero_le _,by simpa[gB] using hp0⟩
 case round =>
  obtain⟨j,tv',rfl,hj,hp⟩:=hrel;by_cases hlt:j<ss.length
  ·have i1:(j:Int)<(ss.length:Int):=by omega
   have hc:=HT.out _ hp.kp j hlt;have hr:=hroom.out j hlt;have hst:=hstep.out j hlt;have hl:=yP ss[j];have hsc:=zK ss[j]
   have HS:Hid (∀ w' v',Pr K w W w' sv v' (xP (gB zs ((ss.map bytesOf).take j)) (bytesOf ss[j]))->∃ (j':Nat) (t':Value),Value.int .i64 ((j:Int)+1)=.int .i64 (j':Int)/\j'<=ss.length/\Pr K w W w' sv t' (gB zs ((ss.map bytesOf).take j'))):=fun w' v' hp'=>⟨j+1,v',by go_num,by omega,by rw[hst];exact hp'⟩
   clear hst
   generalize gB zs ((ss.map bytesOf).take j)=xs at *
   generalize ss[j]=s at *
   have hK:=lt_of_some hp.row;have q1:=hp.text;rcases Nat.eq_zero_or_pos xs.length with h0|h0
   ·have hmid:aV xs=false:=by rw[List.eq_nil_of_length_eq_zero h0];rfl
    rw[ES hmid]at HS;obtain⟨a,M,cap,rfl,hM⟩:=hp.shape;obtain rfl:M=0:=by rw[hM.out,h0]
    go_wp2_with fail
    go_quiet (fail)
    have hpq:=hp.later (bg (Later.refl wr) nq);go_wp2_with (at_builtin;refine Go.Lib.wpList_append_own_string _ rfl _ _ 22 9 rfl W.heap.size 5 i0 Tryz.underlying22 Tryz.underlying9 hi hz0 hz1 hz2 (.slice a 0 cap) _ _ rfl hpq.own s rfl (by unfold maxLen;omega) (by omega) hpq.lat.size ?_;intro v5 w5 o5 g5 _;obtain⟨hr5,hp5⟩:=hpq.put o5 (ts:=bytesOf s) hl.symm hsc g5;obtain⟨q5,f5⟩:=qZ hr5;clear hr5;obtain⟨a5,M5,p5,rfl,hM5⟩:=hp5.shape)
    refine⟨HS.out _ _ hp5,?_⟩;simp only[intOf];omega
   ·obtain⟨N,hN⟩:∃ N,xs.length=N+1:=⟨xs.length - 1,by omega⟩
    obtain⟨gb,cap,rfl,qb⟩:=hp.last N hN;by_cases hz:xs.getLast?.getD 0=10
    ·have hmid:aV xs=false:=by
      unfold aV
      cases hx:xs.getLast? with
      | none=>rfl
      | some z=>rw[hx]at hz;simp at hz;simp[hz]
     rw[ES hmid]at HS;rw[hz]at qb;have hNN:Hid _:=hN;go_wp2_with fail
     go_quiet (fail)
     have hpq:=hp.later (bg (Later.refl wr) nq);go_wp2_with (at_builtin;refine Go.Lib.wpList_append_own_string _ rfl _ _ 22 9 rfl W.heap.size 5 i0 Tryz.underlying22 Tryz.underlying9 hi hz0 hz1 hz2 (.slice (some ⟨gb,0,none⟩) (N+1) cap) _ _ rfl hpq.own s rfl (by unfold maxLen;omega) (by omega) hpq.lat.size ?_;intro v5 w5 o5 g5 _;obtain⟨hr5,hp5⟩:=hpq.put o5 (ts:=bytesOf s) hl.symm hsc g5;obtain⟨q5,f5⟩:=qZ hr5;clear hr5;obtain⟨a5,M5,p5,rfl,hM5⟩:=hp5.shape)
     refine⟨HS.out _ _ hp5,?_⟩;simp only[intOf];omega
    ·have hmid:aV xs=true:=by
      unfold aV
      cases hx:xs.getLast? with
      | none=>rw[List.getLast?_eq_none_iff]at hx;rw[hx]at hN;simp at hN
      | some z=>rw[hx]at hz;simpa using hz
     rw[Og hmid]at HS
     generalize hzz:xs.getLast?.getD 0=z at *
     clear hzz;go_wp2_with fail
     go_quiet (fail)
     have hB:=(hp.later (bg (Later.refl wr) nq)).alloc (.cells #[.int .u8 32] 5);go_wp2_with (first|((have _g:=hp3);(at_builtin;refine Go.Lib.wpList_append_own_string _ rfl _ _ 22 9 rfl W.heap.size 5 i0 Tryz.underlying22 Tryz.underlying9 hi hz0 hz1 hz2 (.slice a3 M3 p3) _ _ rfl hp3.own s rfl (by unfold maxLen;omega) (by omega) hp3.lat.size ?_;intro v5 w5 o5 g5 _;obtain⟨hr5,hp5⟩:=hp3.put o5 (ts:=bytesOf s) hl.symm hsc g5;obtain⟨q5,f5⟩:=qZ hr5;clear hr5;obtain⟨a5,M5,p5,rfl,hM5⟩:=hp5.shape))|(at_builtin;refine wpList_append_own _ rfl _ _ 22 rfl W.heap.size 5 i0 (.int .u8 0) 1 1 Tryz.underlying22 hi hz0 hz1 hz2 rfl (by decide) (.slice (some ⟨gb,0,none⟩) (N+1) cap) _ _ rfl hB.own ⟨(wr.drewN nq).heap.size,0,none⟩ 1 1 [.int .u8 32] rfl rfl (Fg _ _) (by simp[Value.oneCell']) (by unfold maxLen;omega) (by omega) hB.lat.size ?_;intro v3 w3 o3 g3 _;obtain⟨hr3,hp3⟩:=hB.put o3 (ts:=[32]) rfl rfl g3;obtain⟨q3,f3⟩:=qZ hr3;clear hr3;obtain⟨a3,M3,p3,rfl,hM3⟩:=hp3.shape;have hl3:(xs++[32]).length=xs.length+1:=(by simp);have q4:=hp3.text))
     rw[List.append_assoc]at hp5;refine⟨HS.out _ _ hp5,?_⟩;simp only[intOf];omega
  ·have hje:j=ss.length:=by omega
   have i1:¬ (j:Int)<(ss.length:Int):=by omega
   rw[hje,hend.out]at hp;go_wp2_with fail
   refine bodyPost_end (results_none rfl _ _ _) rfl ?_;exact HF.out _ _ hp
def atL (b t:List Int):List Int:=b++(if aV b then t else t.drop 1)
theorem zA (b:List Int):atL b []=b:=by unfold atL;simp
theorem Rq (b t:List Int):xP b t=atL b (32::t):=by
 unfold xP atL;by_cases h:aV b=true
 ·rw[if_pos h,if_pos h]
 ·rw[if_neg h,if_neg h];rfl
theorem xk {b:List Int}(h:aV b=true) (t:List Int):atL b t=b++t:=by unfold atL;rw[if_pos h]
theorem pq {b:List Int}(h:aV b=false) (t:List Int):atL b t=b++t.drop 1:=by unfold atL;rw[if_neg (by rw[h];exact Bool.false_ne_true)]
theorem bJ (b t:List Int):(atL b t).length<=b.length+t.length:=by
 unfold atL;by_cases h:aV b=true
 ·rw[if_pos h,List.length_append];omega
 ·rw[if_neg h,List.length_append,List.length_drop];omega
structure Good (t:List Int):Prop where
 two:2<=t.length
 mid:aV t=true
theorem Good.drop {t:List Int}(h:Good t):aV (t.drop 1)=true:=by
 match t,h with
 | [],h=>exact absurd h.two (by simp)
 | [_],h=>exact absurd h.two (by simp)
 | a::b::r,h =>
  have:=h.mid;unfold aV at this ⊢;rw[List.getLast?_cons_cons]at this;exact this
theorem lY (b:List Int) {t:List Int}(h:Good t):aV (atL b t)=true:=by
 unfold atL;refine aT b ?_;by_cases hm:aV b=true
 ·rw[if_pos hm];exact h.mid
 ·rw[if_neg hm];exact h.drop
theorem cZ (b:List Int) {t:List Int}(h:Good t) (u:List Int):atL (atL b t) u=atL b (t++u):=by
 rw[xk (lY b h)];unfold atL;by_cases hm:aV b=true
 ·rw[if_pos hm,if_pos hm,List.append_assoc]
 ·rw[if_neg hm,if_neg hm,List.append_assoc,List.drop_append_of_le_length (by have:=h.two;omega)]
theorem Good.app {t u:List Int}(h:Good t) (g:Good u):Good (t++u):=⟨by have:=h.two;rw[List.length_append];omega,aT t g.mid⟩
theorem Good.cons {t:List Int}(h:aV t=true):Good (32::t):=⟨by
 cases t with
 | nil=>exact absurd h (by decide)
 | cons a r=>simp,aT [32] h⟩
def spread:List (List Int)->List Int
 | []=>[]
 | t::r=>32::t++spread r
theorem DR (ts:List (List Int)):zT ts=(spread ts).length:=by
 induction ts with
 | nil=>rfl
 | cons t r ih=>rw[zT,spread,List.length_append,List.length_cons,ih]
theorem ER:∀ (ts:List (List Int)) (b:List Int),(∀ t∈ts,aV t=true)->gB b ts=atL b (spread ts)
 | [],b,_=>by rw[gB,spread,zA]
 | t::r,b,h=>by
  rw[gB,ER r _ (fun x hx=>h x (List.mem_cons_of_mem _ hx)),Rq,cZ b (Good.cons (h t (List.mem_cons_self ..))),spread]
theorem DT (K g:Nat) (A W w:World) (sv tv:Value) (zs:List Int) (ss:List ByteArray) (T:List Int) (hT:spread (ss.map bytesOf)=T) (h:Pr K A W w sv tv zs) (ht:BN w g ss) (hm:∀ t∈ss.map bytesOf,aV t=true) (hb:zs.length+T.length<=1000000) (hs:ss.length<=1000) (n:Nat) (hn:n=ss.length) :
  Calls Tryz.prog 78 #[.pointer (some ⟨K,0,none⟩),.slice (some ⟨g,0,none⟩) n n] w (PrP K A W sv (atL zs T)):=by
 subst hT hn;rw[<-ER _ _ hm];exact put_any K g A W w sv tv zs ss h ht hs (by rw[DR];exact hb)
theorem BN.new (w:World) (ss:List ByteArray):BN (w.alloc (.cells (ss.map Value.string).toArray 9)) w.heap.size ss:=⟨(0,0),by show (w.heap.push _)[w.heap.size]?=_;simp⟩
theorem jw (K:Nat) (A W w:World) (sv tv:Value) (zs:List Int) (s0:ByteArray) (T:List Int) (hT:spread [bytesOf s0]=T) (h:Pr K A W w sv tv zs) (h0:aV (bytesOf s0)=true) (hb:zs.length+T.length<=1000000) (b:Nat) (hbk:b=w.heap.size) :
  Calls Tryz.prog 78 #[.pointer (some ⟨K,0,none⟩),.slice (some ⟨b,0,none⟩) 1 1] (w.alloc (.cells #[.string s0] 9)) (PrP K A W sv (atL zs T)):=by
 subst hbk;exact DT K _ A W _ sv tv zs [s0] T hT (h.alloc _) (BN.new w [s0]) (by intro t ht;simp at ht;subst ht;exact h0) hb (by simp) 1 rfl
theorem Oi (K:Nat) (A W w:World) (sv tv:Value) (zs:List Int) (s0 s1:ByteArray) (T:List Int) (hT:spread [bytesOf s0,bytesOf s1]=T) (h:Pr K A W w sv tv zs) (h0:aV (bytesOf s0)=true) (h1:aV (bytesOf s1)=true) (hb:zs.length+T.length<=1000000) (b:Nat) (hbk:b=w.heap.size) :
  Calls Tryz.prog 78 #[.pointer (some ⟨K,0,none⟩),.slice (some ⟨b,0,none⟩) 2 2] (w.alloc (.cells #[.string s0,.string s1] 9)) (PrP K A W sv (atL zs T)):=by
 subst hbk;exact DT K _ A W _ sv tv zs [s0,s1] T hT (h.alloc _) (BN.new w [s0,s1]) (by intro t ht;simp at ht;rcases ht with rfl|rfl;exact h0;exact h1) hb (by simp) 2 rfl
theorem UC (K:Nat) (A W w:World) (sv tv:Value) (zs:List Int) (s0 s1 s2:ByteArray) (T:List Int) (hT:spread [bytesOf s0,bytesOf s1,bytesOf s2]=T) (h:Pr K A W w sv tv zs) (h0:aV (bytesOf s0)=true) (h1:aV (bytesOf s1)=true) (h2:aV (bytesOf s2)=true) (hb:zs.length+T.length<=1000000) (b:Nat) (hbk:b=w.heap.size) :
  Calls Tryz.prog 78 #[.pointer (some ⟨K,0,none⟩),.slice (some ⟨b,0,none⟩) 3 3] (w.alloc (.cells #[.string s0,.string s1,.string s2] 9)) (PrP K A W sv (atL zs T)):=by
 subst hbk;exact DT K _ A W _ sv tv zs [s0,s1,s2] T hT (h.alloc _) (BN.new w [s0,s1,s2]) (by intro t ht;simp at ht;rcases ht with rfl|rfl|rfl;exact h0;exact h1;exact h2) hb (by simp) 3 rfl
theorem put4 (K:Nat) (A W w:World) (sv tv:Value) (zs:List Int) (s0 s1 s2 s3:ByteArray) (T:List Int) (hT:spread [bytesOf s0,bytesOf s1,bytesOf s2,bytesOf s3]=T) (h:Pr K A W w sv tv zs) (h0:aV (bytesOf s0)=true) (h1:aV (bytesOf s1)=true) (h2:aV (bytesOf s2)=true) (h3:aV (bytesOf s3)=true) (hb:zs.length+T.length<=1000000) (b:Nat) (hbk:b=w.heap.size) :
  Calls Tryz.prog 78 #[.pointer (some ⟨K,0,none⟩),.slice (some ⟨b,0,none⟩) 4 4] (w.alloc (.cells #[.string s0,.string s1,.string s2,.string s3] 9)) (PrP K A W sv (atL zs T)):=by
 subst hbk;exact DT K _ A W _ sv tv zs [s0,s1,s2,s3] T hT (h.alloc _) (BN.new w [s0,s1,s2,s3]) (by intro t ht;simp at ht;rcases ht with rfl|rfl|rfl|rfl;exact h0;exact h1;exact h2;exact h3) hb (by simp) 4 rfl
theorem xh (nm:List Int) (h:∀ z∈nm,0<=z/\z<=255):bytesOf (strOfNums nm)=nm:=by
 unfold bytesOf;rw[strOfNums_data,List.map_map]
 conv=>rhs;rw[<-List.map_id nm]
 refine List.map_congr_left fun z hz=>?_;obtain⟨h0,h1⟩:=h z hz;show ((UInt8.ofNat z.toNat).toNat:Int)=z;rw[UInt8.toNat_ofNat'];omega
theorem jc {W:World}{v:Value}{nm:List Int}(h:RdN W v nm) (h1:1<=nm.length):∃ (s:ByteArray) (g off q:Nat),v=.slice (some ⟨g,off,none⟩) nm.length q/\g<W.heap.size/\bytesOf s=nm/\∀ w',Later W w'->(convert 22 9 (.slice (some ⟨g,off,none⟩) nm.length q)).run Tryz.prog w'=.ok (.string s) w':=by
 obtain⟨y,q,rfl,hyl,hyb,hyc⟩:=h.rd;obtain⟨g0,off0,rfl,hg0,_⟩:=hyc 0 (by omega);refine⟨strOfNums nm,g0,off0,q,rfl,hg0,?_,fun w' hw=>?_⟩
 ·refine xh nm fun z hz=>?_;obtain⟨j,hj,rfl⟩:=List.mem_iff_getElem.1 hz;have:=hyb j;rw[List.getD_eq_getElem?_getD,List.getElem?_eq_getElem hj]at this;exact⟨this.1,by have:=this.2;simp at this;omega⟩
 ·refine run_convert_bytes_arg w' 22 5 Tryz.underlying22 Tryz.underlying5 g0 off0 nm.length q nm rfl (fun i hi=>?_) 9 Tryz.underlying9;obtain⟨g',off',e,_,hv⟩:=hyc i hi
  cases e
  rw[hw.cell (p:=⟨g0,off0+i,none⟩) hg0,hv]
theorem Pr.at {K:Nat}{A W w:World}{sv tv:Value}{zs:List Int}(h:Pr K A W w sv tv zs) {p:Addr}{u:Value}(hp:p.block<W.heap.size) (hc:W.cell? p=some u):w.cell? p=some u:=by rw[h.lat.cell hp];exact hc
def QB (w:World) (nm:List Int) (e:Ending) (w':World):Prop:=∃ s,e=.returned (.string s)/\bytesOf s=nm/\w'=w
theorem jm (K:Nat) (A W w:World) (sv tv:Value) (zs:List Int) (l:List Sc) (n:Int) (h:Pr K A W w sv tv zs) (hl:RdL W 2 sv (Sc.ah l)) (h0:0<=n) (h1:n<l.length) (hnm:1<=(iC l n).length) :
  Calls Tryz.prog 109 #[.pointer (some ⟨K,0,none⟩),.int .i64 n] w (QB w (iC l n)):=by
 obtain⟨N,rfl⟩:∃ N:Nat,n=N:=⟨n.toNat,by omega⟩
 have hN:N<l.length:=by omega
 obtain⟨sa,scap,rfl,hsl⟩:=Sc.slice hl;obtain⟨g,off,v0,v1,rfl,hg,hc0,hc1,hr0,hr1⟩:=Sc.elem hl N hN;have he:iC l (N:Int)=l[N].name:=by unfold iC;rw[Int.toNat_natCast,List.getElem?_eq_getElem hN]
 rw[he]at hnm ⊢
 generalize l[N].name=nm at *
 obtain⟨s,g0,off0,q,rfl,hg0,hb,hcv⟩:=jc hr0 hnm;have q0:=h.structs;have c0:=h.at hg hc0;have cv:=hcv w h.lat
 have HF:Hid (QB w nm (.returned (.string s)) w):=⟨s,rfl,hb,rfl⟩
 generalize hQ:QB w nm=Q
 rw[hQ]at HF;clear hQ hcv hb he hc0 hc1 hr0 hr1 hl;go_enter Tryz.func109,Tryz.ntmps109;go_wp2_with fail
 exact HF.out
end Go.Proofs.YtgaddpkkjebekaaGreatDoor
