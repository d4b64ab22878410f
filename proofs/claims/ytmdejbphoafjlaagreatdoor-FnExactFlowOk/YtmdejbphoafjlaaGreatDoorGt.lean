/- My texts T46, T47, T48, T49, T50 in one. -/
import Derived.Test.YtmdejbphoafjlaaGreatDoorGs
import Derived.Handy
import Derived.Laws.BytesArg
set_option maxHeartbeats 100000000
set_option maxRecDepth 100000
namespace Go.Proofs.YtmdejbphoafjlaaGreatDoor
open Go.RowKit Go.Lib
def KP (K:Nat) (A w:World):Prop:=A.heap.size≤w.heap.size∧∀ (k:Nat) (C:Array Value) (t:TypeId) (fz:Nat × Nat),k≠K→A.heap[k]?=some (.cells C t fz)→t≠5→w.heap[k]?=A.heap[k]?
theorem KP.refl (K:Nat) (w:World):KP K w w:=⟨Nat.le_refl _,fun _ _ _ _ _ _ _=>rfl⟩
theorem KP.trans {K:Nat}{a b c:World}(h:KP K a b) (g:KP K b c):KP K a c:=⟨Nat.le_trans h.1 g.1,fun k C t fz hn hk ht=>by
 have e:=h.2 k C t fz hn hk ht
 rw[g.2 k C t fz hn (by rw[e];exact hk) ht,e]⟩
theorem K8.kp {a b:World}(K:Nat) (h:K8 a b):KP K a b:=⟨h.1,fun k C t fz _ hk ht=>h.2 k C t fz hk ht⟩
theorem set_grown (w:World) (K i:Nat) (u:Value):w.grownBy (w.setCell ⟨K,i,none⟩ u) (some K):=⟨rfl,rfl,rfl,by simp,fun k _ hk=>heap_setCell_other w ⟨K,i,none⟩ k u (fun e=>hk (by simp[e]))⟩
theorem kp_set (w:World) (K i:Nat) (u:Value):KP K w (w.setCell ⟨K,i,none⟩ u):=⟨(set_grown w K i u).size,fun k _ _ _ hn hk _=>(set_grown w K i u).block k (lt_of_some hk) (fun e=>hn (by cases e;rfl))⟩
structure Pr (K:Nat) (A W w:World) (sv tv:Value) (zs:List Int):Prop where
 row:w.heap[K]?=some (.cells #[sv,tv] 145)
 own:w.ownsRow W.heap.size 5 1 tv zs.length (zs.map (Value.int .u8))
 lat:Later W w
 new:W.heap.size≤K
 kp:KP K A w
theorem Pr.ne {K:Nat}{A W w:World}{sv tv:Value}{zs:List Int}(h:Pr K A W w sv tv zs):tv.ownBlock≠some K:=fun e=>by
 rcases h.own.2 with ⟨rfl,_⟩|⟨g,cap,cur,rfl,_,hg,_⟩
 ·cases e
 ·have e':g=K:=by cases e;rfl
  rw[e',h.row]at hg
  simp at hg
theorem Pr.later {K:Nat}{A W w w':World}{sv tv:Value}{zs:List Int}(h:Pr K A W w sv tv zs) (l:Later w w'):Pr K A W w' sv tv zs :=
 ⟨by rw[l.block K (lt_of_some h.row)];exact h.row,later_ownb h.own l,h.lat.trans l,h.new,h.kp.trans (l.k8.kp K)⟩
theorem Pr.alloc {K:Nat}{A W w:World}{sv tv:Value}{zs:List Int}(h:Pr K A W w sv tv zs) (o:Obj):Pr K A W (w.alloc o) sv tv zs:=h.later (later1 _ _)
theorem Pr.text {K:Nat}{A W w:World}{sv tv:Value}{zs:List Int}(h:Pr K A W w sv tv zs):w.cell? ⟨K,1,none⟩=some tv:=by
 show (match w.heap[K]? with|some (.cells c _ _)=>c[1]?|_=>none)=some tv
 rw[h.row]
 rfl
theorem Pr.structs {K:Nat}{A W w:World}{sv tv:Value}{zs:List Int}(h:Pr K A W w sv tv zs):w.cell? ⟨K,0,none⟩=some sv:=by
 show (match w.heap[K]? with|some (.cells c _ _)=>c[0]?|_=>none)=some sv
 rw[h.row]
 rfl
theorem Pr.put {K:Nat}{A W w w3:World}{sv tv v3:Value}{zs ts:List Int}{n:Nat}{X:List Value}(h:Pr K A W w sv tv zs) (o:w3.ownsRow W.heap.size 5 1 v3 (zs.length+n) (zs.map (Value.int .u8)++X)) (hn:n=ts.length) (hX:X=ts.map (Value.int .u8)) (g:w.grownBy w3 tv.ownBlock) :
  w3.heap[K]?=some (.cells #[sv,tv] 145)∧Pr K A W (w3.setCell ⟨K,1,none⟩ v3) sv v3 (zs++ts):=by
 subst hn hX
 have hr:w3.heap[K]?=some (.cells #[sv,tv] 145):=by rw[g.block K (lt_of_some h.row) (fun e=>h.ne e.symm)];exact h.row
 have hne:v3.ownBlock=none∨v3.ownBlock≠some K:=.inr fun e=>by
  rcases o.2 with ⟨rfl,_⟩|⟨g',cap,cur,rfl,_,hg,_⟩
  ·cases e
  ·have e':g'=K:=by cases e;rfl
   rw[e',hr]at hg
   simp at hg
 have hL:Later W w3:=h.lat.trans' g (own_lt_b h.own)
 refine⟨hr,?_,?_,?_,h.new,?_⟩
 ·rw[heap_setCell_same w3 K 1 _ _ v3 hr];rfl
 ·rw[List.length_append,List.map_append];exact o.kept (set_grown w3 K 1 v3) hne
 ·exact hL.trans' (v:=.slice (some ⟨K,0,none⟩) 0 0) (set_grown w3 K 1 v3) (fun b e=>by cases e;exact h.new)
 ·exact (h.kp.trans ((K8.grown h.own g).kp K)).trans (kp_set w3 K 1 v3)
theorem Pr.shape {K:Nat}{A W w:World}{sv tv:Value}{zs:List Int}(h:Pr K A W w sv tv zs):∃ a M cap,tv=.slice a M cap∧Hid (M=zs.length):=by
 rcases h.own.2 with ⟨rfl,h0⟩|⟨g,cap,_,rfl,_⟩
 ·exact⟨_,_,_,rfl,by rw[h0];rfl⟩
 ·exact⟨_,_,_,rfl,rfl⟩
theorem row_text {K:Nat}{w:World}{sv tv:Value}(hr:w.heap[K]?=some (.cells #[sv,tv] 145)):w.cell? ⟨K,1,none⟩=some tv∧w.frozen? ⟨K,1,none⟩=false:=by
 refine⟨?_,?_⟩
 ·show (match w.heap[K]? with|some (.cells c _ _)=>c[1]?|_=>none)=some tv
  rw[hr]
  rfl
 ·simp[World.frozen?,hr]
def PrP (K:Nat) (A W:World) (sv:Value) (zs:List Int) (e:Ending) (w':World):Prop:=e=.returned (.tuple #[])∧∃ tv,Pr K A W w' sv tv zs
theorem endLine_any (K:Nat) (A W w:World) (sv tv:Value) (zs:List Int) (h:Pr K A W w sv tv zs) (hb:zs.length≤1000000) :
  Calls Tryz.prog 140 #[.pointer (some ⟨K,0,none⟩)] w (PrP K A W sv (zs++[10])):=by
 obtain⟨i0,hi,hz0,hz1,hz2⟩:=info_parts Tryz.info5
 obtain⟨a,M,cap,rfl,hM⟩:=h.shape
 have q1:=h.text
 have hK:=lt_of_some h.row
 have hB:=h.alloc (.cells #[.int .u8 10] 5)
 go_enter Tryz.func140,Tryz.ntmps140
 go_wp2_with (at_builtin;refine wpList_append_own _ rfl _ _ 41 rfl W.heap.size 5 i0 (.int .u8 0) 1 1 Tryz.underlying41 hi hz0 hz1 hz2 rfl (by decide) (.slice a M cap) _ _ rfl hB.own ⟨w.heap.size,0,none⟩ 1 1 [.int .u8 10] rfl rfl (new_oneb _ _) (by simp[Value.oneCell']) (by unfold maxLen;omega) (by omega) hB.lat.size ?_;intro v3 w3 o3 g3 _;obtain⟨hr3,hp3⟩:=hB.put o3 (ts:=[10]) rfl rfl g3;obtain⟨q3,f3⟩:=row_text hr3;clear hr3;obtain⟨a3,M3,p3,rfl,hM3⟩:=hp3.shape)
 refine bodyPost_end (results_none rfl _ _ _) rfl ?_
 exact⟨rfl,_,hp3⟩
def bytesOf (s:ByteArray):List Int:=s.data.toList.map fun b=>(b.toNat:Int)
theorem strCells_bytes (s:ByteArray):strCells s=(bytesOf s).map (Value.int .u8):=by
 unfold strCells bytesOf
 rw[List.map_map]
 rfl
theorem bytesOf_len (s:ByteArray):(bytesOf s).length=s.size:=by
 unfold bytesOf
 rw[List.length_map,Array.length_toList]
 rfl
def putsL (b:List Int):List (List Int)→List Int
 | []=>b
 | t::r=>putsL (putL b t) r
theorem putsL_step:∀ (ts:List (List Int)) (b:List Int) (j:Nat) (h:j<ts.length),putsL b (ts.take (j+1))=putL (putsL b (ts.take j)) ts[j]
 | t::r,b,0,_=>by simp[putsL]
 | t::r,b,j+1,h=>by
  rw[List.take_succ_cons,List.take_succ_cons,putsL,putsL]
  exact putsL_step r _ j (by simpa using h)
def roomL:List (List Int)→Nat
 | []=>0
 | t::r=>t.length+1+roomL r
theorem putL_len (b t:List Int):(putL b t).length≤b.length+(t.length+1):=by
 unfold putL
 by_cases h:midB b=true
 ·rw[if_pos h,List.length_append,List.length_cons];omega
 ·rw[if_neg h,List.length_append];omega
theorem putsL_room:∀ (ts:List (List Int)) (b:List Int) (j:Nat) (h:j<ts.length),(putsL b (ts.take j)).length+(ts[j].length+1)≤b.length+roomL ts
 | t::r,b,0,_=>by simp[putsL,roomL]
 | t::r,b,j+1,h=>by
  have:=putsL_room r (putL b t) j (by simpa using h)
  have h2:=putL_len b t
  rw[List.take_succ_cons,putsL,roomL]
  simp only[List.getElem_cons_succ]
  omega
theorem Pr.from {K:Nat}{A W w:World}{sv tv:Value}{zs:List Int}(h:Pr K A W w sv tv zs):Pr K w W w sv tv zs:=⟨h.row,h.own,h.lat,h.new,KP.refl K w⟩
theorem Pr.back {K:Nat}{A B W w:World}{sv tv:Value}{zs:List Int}(h:Pr K B W w sv tv zs) (k:KP K A B):Pr K A W w sv tv zs:=⟨h.row,h.own,h.lat,h.new,k.trans h.kp⟩
def Toks (w:World) (g:Nat) (ss:List ByteArray):Prop:=∃ fz,w.heap[g]?=some (.cells (ss.map Value.string).toArray 9 fz)
theorem Toks.at {K:Nat}{A W w:World}{sv tv:Value}{zs:List Int}{g:Nat}{ss:List ByteArray}(t:Toks w g ss) (h:Pr K A W w sv tv zs) {w':World}(k:KP K w w') (j:Nat) (hj:j<ss.length):w'.cell? ⟨g,j,none⟩=some (.string ss[j]):=by
 obtain⟨fz,hg⟩:=t
 have hne:g≠K:=fun e=>by rw[e,h.row]at hg;simp at hg
 have hg':w'.heap[g]?=some (.cells (ss.map Value.string).toArray 9 fz):=by rw[k.2 g _ _ _ hne hg (by decide)];exact hg
 show (match w'.heap[g]? with|some (.cells c _ _)=>c[j]?|_=>none)=_
 rw[hg']
 simp[hj]
theorem Pr.last {K:Nat}{A W w:World}{sv tv:Value}{zs:List Int}(h:Pr K A W w sv tv zs) (N:Nat) (hN:zs.length=N+1):∃ g cap,tv=.slice (some ⟨g,0,none⟩) (N+1) cap∧w.cell? ⟨g,N,none⟩=some (.int .u8 (zs.getLast?.getD 0)):=by
 obtain⟨g,q,e,_,_,hc⟩:=row_cells h.own (by omega)
 refine⟨g,q,by rw[e,hN],?_⟩
 have:=hc N (.int .u8 (zs.getLast?.getD 0)) (by rw[List.getElem?_map,List.getLast?_eq_getElem?,hN];simp[hN])
 simpa[Addr.add_lit] using this
theorem put_any (K g:Nat) (A W w:World) (sv tv:Value) (zs:List Int) (ss:List ByteArray) (h:Pr K A W w sv tv zs) (ht:Toks w g ss) (hs:ss.length≤1000) (hb:zs.length+roomL (ss.map bytesOf)≤1000000) :
  Calls Tryz.prog 139 #[.pointer (some ⟨K,0,none⟩),.slice (some ⟨g,0,none⟩) ss.length ss.length] w (PrP K A W sv (putsL zs (ss.map bytesOf))):=by
 obtain⟨i0,hi,hz0,hz1,hz2⟩:=info_parts Tryz.info5
 have HT:Hid (∀ w',KP K w w'→∀ j (hj:j<ss.length),w'.cell? ⟨g,j,none⟩=some (.string ss[j])):=fun w' k j hj=>ht.at h k j hj
 have HF:Hid (∀ w' tv',Pr K w W w' sv tv' (putsL zs (ss.map bytesOf))→PrP K A W sv (putsL zs (ss.map bytesOf)) (.returned (.tuple #[])) w'):=fun w' tv' hp=>⟨rfl,tv',hp.back h.kp⟩
 have hp0:=h.from
 have hroom:Hid (∀ j (hj:j<ss.length),(putsL zs ((ss.map bytesOf).take j)).length+((bytesOf ss[j]).length+1)≤1000000):=fun j hj=>by
  have:=putsL_room (ss.map bytesOf) zs j (by simpa using hj)
  rw[List.getElem_map]at this
  omega
 have hstep:Hid (∀ j (hj:j<ss.length),putsL zs ((ss.map bytesOf).take (j+1))=putL (putsL zs ((ss.map bytesOf).take j)) (bytesOf ss[j])):=fun j hj=>by
  rw[putsL_step _ _ j (by simpa using hj),List.getElem_map]
 have hend:Hid ((ss.map bytesOf).take ss.length=ss.map bytesOf):=by
  show List.take _ _=_
  rw[show ss.length=(ss.map bytesOf).length by simp,List.take_length]
 generalize hQ:PrP K A W sv (putsL zs (ss.map bytesOf))=Q
 rw[hQ]at HF
 clear hQ ht h hb
 go_enter Tryz.func139,Tryz.ntmps139
 go_wp2_with fail
 go_loopw [8] (fun i wr=>∃ (j:Nat) (tv':Value),i=.int .i64 (j:Int)∧j≤ss.length∧Pr K w W wr sv tv' (putsL zs ((ss.map bytesOf).take j))) (fun i _=>ss.length - (intOf i).toNat)
 case atStart=>exact⟨0,tv,rfl,Nat.zero_le _,by simpa[putsL] using hp0⟩
 case round =>
  obtain⟨j,tv',rfl,hj,hp⟩:=hrel
  by_cases hlt:j<ss.length
  ·have i1:(j:Int)<(ss.length:Int):=by omega
   have hc:=HT.out _ hp.kp j hlt
   have hr:=hroom.out j hlt
   have hst:=hstep.out j hlt
   have hl:=bytesOf_len ss[j]
   have hsc:=strCells_bytes ss[j]
   have HS:Hid (∀ w' v',Pr K w W w' sv v' (putL (putsL zs ((ss.map bytesOf).take j)) (bytesOf ss[j]))→∃ (j':Nat) (t':Value),Value.int .i64 ((j:Int)+1)=.int .i64 (j':Int)∧j'≤ss.length∧Pr K w W w' sv t' (putsL zs ((ss.map bytesOf).take j'))):=fun w' v' hp'=>⟨j+1,v',by go_num,by omega,by rw[hst];exact hp'⟩
   clear hst
   generalize putsL zs ((ss.map bytesOf).take j)=xs at *
   generalize ss[j]=s at *
   have hK:=lt_of_some hp.row
   have q1:=hp.text
   rcases Nat.eq_zero_or_pos xs.length with h0|h0
   ·have hmid:midB xs=false:=by rw[List.eq_nil_of_length_eq_zero h0];rfl
    rw[putL_new hmid]at HS
    obtain⟨a,M,cap,rfl,hM⟩:=hp.shape
    obtain rfl:M=0:=by rw[hM.out,h0]
    go_wp2_with fail
    go_quiet (fail)
    have hpq:=hp.later (later_drewN (Later.refl wr) nq)
    go_wp2_with (at_builtin;refine Go.Lib.wpList_append_own_string _ rfl _ _ 41 9 rfl W.heap.size 5 i0 Tryz.underlying41 Tryz.underlying9 hi hz0 hz1 hz2 (.slice a 0 cap) _ _ rfl hpq.own s rfl (by unfold maxLen;omega) (by omega) hpq.lat.size ?_;intro v5 w5 o5 g5 _;obtain⟨hr5,hp5⟩:=hpq.put o5 (ts:=bytesOf s) hl.symm hsc g5;obtain⟨q5,f5⟩:=row_text hr5;clear hr5;obtain⟨a5,M5,p5,rfl,hM5⟩:=hp5.shape)
    refine⟨HS.out _ _ hp5,?_⟩
    simp only[intOf]
    omega
   ·obtain⟨N,hN⟩:∃ N,xs.length=N+1:=⟨xs.length - 1,by omega⟩
    obtain⟨gb,cap,rfl,qb⟩:=hp.last N hN
    by_cases hz:xs.getLast?.getD 0=10
    ·have hmid:midB xs=false:=by
      unfold midB
      cases hx:xs.getLast? with
      | none=>rfl
      | some z=>rw[hx]at hz;simp at hz;simp[hz]
     rw[putL_new hmid]at HS
     rw[hz]at qb
     have hNN:Hid (xs.length=N+1):=hN
     go_wp2_with fail
     go_quiet (fail)
     have hpq:=hp.later (later_drewN (Later.refl wr) nq)
     go_wp2_with (at_builtin;refine Go.Lib.wpList_append_own_string _ rfl _ _ 41 9 rfl W.heap.size 5 i0 Tryz.underlying41 Tryz.underlying9 hi hz0 hz1 hz2 (.slice (some ⟨gb,0,none⟩) (N+1) cap) _ _ rfl hpq.own s rfl (by unfold maxLen;omega) (by omega) hpq.lat.size ?_;intro v5 w5 o5 g5 _;obtain⟨hr5,hp5⟩:=hpq.put o5 (ts:=bytesOf s) hl.symm hsc g5;obtain⟨q5,f5⟩:=row_text hr5;clear hr5;obtain⟨a5,M5,p5,rfl,hM5⟩:=hp5.shape)
     refine⟨HS.out _ _ hp5,?_⟩
     simp only[intOf]
     omega
    ·have hmid:midB xs=true:=by
      unfold midB
      cases hx:xs.getLast? with
      | none=>rw[List.getLast?_eq_none_iff]at hx;rw[hx]at hN;simp at hN
      | some z=>rw[hx]at hz;simpa using hz
     rw[putL_mid hmid]at HS
     generalize hzz:xs.getLast?.getD 0=z at *
     clear hzz
     go_wp2_with fail
     go_quiet (fail)
     have hB:=(hp.later (later_drewN (Later.refl wr) nq)).alloc (.cells #[.int .u8 32] 5)
     go_wp2_with (first|((have _g:=hp3);(at_builtin;refine Go.Lib.wpList_append_own_string _ rfl _ _ 41 9 rfl W.heap.size 5 i0 Tryz.underlying41 Tryz.underlying9 hi hz0 hz1 hz2 (.slice a3 M3 p3) _ _ rfl hp3.own s rfl (by unfold maxLen;omega) (by omega) hp3.lat.size ?_;intro v5 w5 o5 g5 _;obtain⟨hr5,hp5⟩:=hp3.put o5 (ts:=bytesOf s) hl.symm hsc g5;obtain⟨q5,f5⟩:=row_text hr5;clear hr5;obtain⟨a5,M5,p5,rfl,hM5⟩:=hp5.shape))|(at_builtin;refine wpList_append_own _ rfl _ _ 41 rfl W.heap.size 5 i0 (.int .u8 0) 1 1 Tryz.underlying41 hi hz0 hz1 hz2 rfl (by decide) (.slice (some ⟨gb,0,none⟩) (N+1) cap) _ _ rfl hB.own ⟨(wr.drewN nq).heap.size,0,none⟩ 1 1 [.int .u8 32] rfl rfl (new_oneb _ _) (by simp[Value.oneCell']) (by unfold maxLen;omega) (by omega) hB.lat.size ?_;intro v3 w3 o3 g3 _;obtain⟨hr3,hp3⟩:=hB.put o3 (ts:=[32]) rfl rfl g3;obtain⟨q3,f3⟩:=row_text hr3;clear hr3;obtain⟨a3,M3,p3,rfl,hM3⟩:=hp3.shape;have hl3:(xs++[32]).length=xs.length+1:=(by simp);have q4:=hp3.text))
     rw[List.append_assoc]at hp5
     refine⟨HS.out _ _ hp5,?_⟩
     simp only[intOf]
     omega
  ·have hje:j=ss.length:=by omega
   have i1:¬ (j:Int)<(ss.length:Int):=by omega
   rw[hje,hend.out]at hp
   go_wp2_with fail
   refine bodyPost_end (results_none rfl _ _ _) rfl ?_
   exact HF.out _ _ hp
def atL (b t:List Int):List Int:=b++(if midB b then t else t.drop 1)
theorem atL_nil (b:List Int):atL b []=b:=by unfold atL;simp
theorem putL_at (b t:List Int):putL b t=atL b (32::t):=by
 unfold putL atL
 by_cases h:midB b=true
 ·rw[if_pos h,if_pos h]
 ·rw[if_neg h,if_neg h];rfl
theorem atL_mid {b:List Int}(h:midB b=true) (t:List Int):atL b t=b++t:=by unfold atL;rw[if_pos h]
theorem atL_new {b:List Int}(h:midB b=false) (t:List Int):atL b t=b++t.drop 1:=by unfold atL;rw[if_neg (by rw[h];exact Bool.false_ne_true)]
theorem atL_len (b t:List Int):(atL b t).length≤b.length+t.length:=by
 unfold atL
 by_cases h:midB b=true
 ·rw[if_pos h,List.length_append];omega
 ·rw[if_neg h,List.length_append,List.length_drop];omega
structure Good (t:List Int):Prop where
 two:2≤t.length
 mid:midB t=true
theorem Good.drop {t:List Int}(h:Good t):midB (t.drop 1)=true:=by
 match t,h with
 | [],h=>exact absurd h.two (by simp)
 | [_],h=>exact absurd h.two (by simp)
 | a::b::r,h =>
  have:=h.mid
  unfold midB at this ⊢
  rw[List.getLast?_cons_cons]at this
  exact this
theorem midB_at (b:List Int) {t:List Int}(h:Good t):midB (atL b t)=true:=by
 unfold atL
 refine midB_append b ?_
 by_cases hm:midB b=true
 ·rw[if_pos hm];exact h.mid
 ·rw[if_neg hm];exact h.drop
theorem atL_at (b:List Int) {t:List Int}(h:Good t) (u:List Int):atL (atL b t) u=atL b (t++u):=by
 rw[atL_mid (midB_at b h)]
 unfold atL
 by_cases hm:midB b=true
 ·rw[if_pos hm,if_pos hm,List.append_assoc]
 ·rw[if_neg hm,if_neg hm,List.append_assoc,List.drop_append_of_le_length (by have:=h.two;omega)]
theorem Good.app {t u:List Int}(h:Good t) (g:Good u):Good (t++u):=⟨by have:=h.two;rw[List.length_append];omega,midB_append t g.mid⟩
theorem Good.cons {t:List Int}(h:midB t=true):Good (32::t):=⟨by
 cases t with
 | nil=>exact absurd h (by decide)
 | cons a r=>simp,midB_append [32] h⟩
def spread:List (List Int)→List Int
 | []=>[]
 | t::r=>32::t++spread r
theorem roomL_spread (ts:List (List Int)):roomL ts=(spread ts).length:=by
 induction ts with
 | nil=>rfl
 | cons t r ih=>rw[roomL,spread,List.length_append,List.length_cons,ih]
theorem putsL_at:∀ (ts:List (List Int)) (b:List Int),(∀ t∈ts,midB t=true)→putsL b ts=atL b (spread ts)
 | [],b,_=>by rw[putsL,spread,atL_nil]
 | t::r,b,h=>by
  rw[putsL,putsL_at r _ (fun x hx=>h x (List.mem_cons_of_mem _ hx)),putL_at,atL_at b (Good.cons (h t (List.mem_cons_self ..))),spread]
theorem put_at (K g:Nat) (A W w:World) (sv tv:Value) (zs:List Int) (ss:List ByteArray) (T:List Int) (hT:spread (ss.map bytesOf)=T) (h:Pr K A W w sv tv zs) (ht:Toks w g ss) (hm:∀ t∈ss.map bytesOf,midB t=true) (hb:zs.length+T.length≤1000000) (hs:ss.length≤1000) (n:Nat) (hn:n=ss.length) :
  Calls Tryz.prog 139 #[.pointer (some ⟨K,0,none⟩),.slice (some ⟨g,0,none⟩) n n] w (PrP K A W sv (atL zs T)):=by
 subst hT hn
 rw[←putsL_at _ _ hm]
 exact put_any K g A W w sv tv zs ss h ht hs (by rw[roomL_spread];exact hb)
theorem Toks.new (w:World) (ss:List ByteArray):Toks (w.alloc (.cells (ss.map Value.string).toArray 9)) w.heap.size ss:=⟨(0,0),by show (w.heap.push _)[w.heap.size]?=_;simp⟩
theorem put1 (K:Nat) (A W w:World) (sv tv:Value) (zs:List Int) (s0:ByteArray) (T:List Int) (hT:spread [bytesOf s0]=T) (h:Pr K A W w sv tv zs) (h0:midB (bytesOf s0)=true) (hb:zs.length+T.length≤1000000) (b:Nat) (hbk:b=w.heap.size) :
  Calls Tryz.prog 139 #[.pointer (some ⟨K,0,none⟩),.slice (some ⟨b,0,none⟩) 1 1] (w.alloc (.cells #[.string s0] 9)) (PrP K A W sv (atL zs T)):=by
 subst hbk
 exact put_at K _ A W _ sv tv zs [s0] T hT (h.alloc _) (Toks.new w [s0]) (by intro t ht;simp at ht;subst ht;exact h0) hb (by simp) 1 rfl
theorem put2 (K:Nat) (A W w:World) (sv tv:Value) (zs:List Int) (s0 s1:ByteArray) (T:List Int) (hT:spread [bytesOf s0,bytesOf s1]=T) (h:Pr K A W w sv tv zs) (h0:midB (bytesOf s0)=true) (h1:midB (bytesOf s1)=true) (hb:zs.length+T.length≤1000000) (b:Nat) (hbk:b=w.heap.size) :
  Calls Tryz.prog 139 #[.pointer (some ⟨K,0,none⟩),.slice (some ⟨b,0,none⟩) 2 2] (w.alloc (.cells #[.string s0,.string s1] 9)) (PrP K A W sv (atL zs T)):=by
 subst hbk
 exact put_at K _ A W _ sv tv zs [s0,s1] T hT (h.alloc _) (Toks.new w [s0,s1]) (by intro t ht;simp at ht;rcases ht with rfl|rfl;exact h0;exact h1) hb (by simp) 2 rfl
theorem put3 (K:Nat) (A W w:World) (sv tv:Value) (zs:List Int) (s0 s1 s2:ByteArray) (T:List Int) (hT:spread [bytesOf s0,bytesOf s1,bytesOf s2]=T) (h:Pr K A W w sv tv zs) (h0:midB (bytesOf s0)=true) (h1:midB (bytesOf s1)=true) (h2:midB (bytesOf s2)=true) (hb:zs.length+T.length≤1000000) (b:Nat) (hbk:b=w.heap.size) :
  Calls Tryz.prog 139 #[.pointer (some ⟨K,0,none⟩),.slice (some ⟨b,0,none⟩) 3 3] (w.alloc (.cells #[.string s0,.string s1,.string s2] 9)) (PrP K A W sv (atL zs T)):=by
 subst hbk
 exact put_at K _ A W _ sv tv zs [s0,s1,s2] T hT (h.alloc _) (Toks.new w [s0,s1,s2]) (by intro t ht;simp at ht;rcases ht with rfl|rfl|rfl;exact h0;exact h1;exact h2) hb (by simp) 3 rfl
theorem put4 (K:Nat) (A W w:World) (sv tv:Value) (zs:List Int) (s0 s1 s2 s3:ByteArray) (T:List Int) (hT:spread [bytesOf s0,bytesOf s1,bytesOf s2,bytesOf s3]=T) (h:Pr K A W w sv tv zs) (h0:midB (bytesOf s0)=true) (h1:midB (bytesOf s1)=true) (h2:midB (bytesOf s2)=true) (h3:midB (bytesOf s3)=true) (hb:zs.length+T.length≤1000000) (b:Nat) (hbk:b=w.heap.size) :
  Calls Tryz.prog 139 #[.pointer (some ⟨K,0,none⟩),.slice (some ⟨b,0,none⟩) 4 4] (w.alloc (.cells #[.string s0,.string s1,.string s2,.string s3] 9)) (PrP K A W sv (atL zs T)):=by
 subst hbk
 exact put_at K _ A W _ sv tv zs [s0,s1,s2,s3] T hT (h.alloc _) (Toks.new w [s0,s1,s2,s3]) (by intro t ht;simp at ht;rcases ht with rfl|rfl|rfl|rfl;exact h0;exact h1;exact h2;exact h3) hb (by simp) 4 rfl
theorem bytesOf_nums (nm:List Int) (h:∀ z∈nm,0≤z∧z≤255):bytesOf (strOfNums nm)=nm:=by
 unfold bytesOf
 rw[strOfNums_data,List.map_map]
 conv=>rhs;rw[←List.map_id nm]
 refine List.map_congr_left fun z hz=>?_
 obtain⟨h0,h1⟩:=h z hz
 show ((UInt8.ofNat z.toNat).toNat:Int)=z
 rw[UInt8.toNat_ofNat']
 omega
theorem nm_string {W:World}{v:Value}{nm:List Int}(h:RdN W v nm) (h1:1≤nm.length):∃ (s:ByteArray) (g off q:Nat),v=.slice (some ⟨g,off,none⟩) nm.length q∧g<W.heap.size∧bytesOf s=nm∧∀ w',Later W w'→(convert 41 9 (.slice (some ⟨g,off,none⟩) nm.length q)).run Tryz.prog w'=.ok (.string s) w':=by
 obtain⟨y,q,rfl,hyl,hyb,hyc⟩:=h.rd
 obtain⟨g0,off0,rfl,hg0,_⟩:=hyc 0 (by omega)
 refine⟨strOfNums nm,g0,off0,q,rfl,hg0,?_,fun w' hw=>?_⟩
 ·refine bytesOf_nums nm fun z hz=>?_
  obtain⟨j,hj,rfl⟩:=List.mem_iff_getElem.1 hz
  have:=hyb j
  rw[List.getD_eq_getElem?_getD,List.getElem?_eq_getElem hj]at this
  exact⟨this.1,by have:=this.2;simp at this;omega⟩
 ·refine run_convert_bytes_arg w' 41 5 Tryz.underlying41 Tryz.underlying5 g0 off0 nm.length q nm rfl (fun i hi=>?_) 9 Tryz.underlying9
  obtain⟨g',off',e,_,hv⟩:=hyc i hi
  cases e
  rw[hw.cell (p:=⟨g0,off0+i,none⟩) hg0,hv]
theorem Pr.at {K:Nat}{A W w:World}{sv tv:Value}{zs:List Int}(h:Pr K A W w sv tv zs) {p:Addr}{u:Value}(hp:p.block<W.heap.size) (hc:W.cell? p=some u):w.cell? p=some u:=by rw[h.lat.cell hp];exact hc
def StrP (w:World) (nm:List Int) (e:Ending) (w':World):Prop:=∃ s,e=.returned (.string s)∧bytesOf s=nm∧w'=w
theorem structName_any (K:Nat) (A W w:World) (sv tv:Value) (zs:List Int) (l:List Sc) (n:Int) (h:Pr K A W w sv tv zs) (hl:RdL W 2 sv (Sc.dats l)) (h0:0≤n) (h1:n<l.length) (hnm:1≤(nmAt l n).length) :
  Calls Tryz.prog 167 #[.pointer (some ⟨K,0,none⟩),.int .i64 n] w (StrP w (nmAt l n)):=by
 obtain⟨N,rfl⟩:∃ N:Nat,n=N:=⟨n.toNat,by omega⟩
 have hN:N<l.length:=by omega
 obtain⟨sa,scap,rfl,hsl⟩:=Sc.slice hl
 obtain⟨g,off,v0,v1,rfl,hg,hc0,hc1,hr0,hr1⟩:=Sc.elem hl N hN
 have he:nmAt l (N:Int)=l[N].name:=by unfold nmAt;rw[Int.toNat_natCast,List.getElem?_eq_getElem hN]
 rw[he]at hnm ⊢
 generalize l[N].name=nm at *
 obtain⟨s,g0,off0,q,rfl,hg0,hb,hcv⟩:=nm_string hr0 hnm
 have q0:=h.structs
 have c0:=h.at hg hc0
 have cv:=hcv w h.lat
 have HF:Hid (StrP w nm (.returned (.string s)) w):=⟨s,rfl,hb,rfl⟩
 generalize hQ:StrP w nm=Q
 rw[hQ]at HF
 clear hQ hcv hb he hc0 hc1 hr0 hr1 hl
 go_enter Tryz.func167,Tryz.ntmps167
 go_wp2_with fail
 exact HF.out
theorem ty_1 (K:Nat) (A W w:World) (sv tv:Value) (zs:List Int) (l:List Sc) (n:Int) (h:Pr K A W w sv tv zs) (hb:zs.length+(sayTy l 1 n).length≤1000000) :
  Calls Tryz.prog 142 #[.pointer (some ⟨K,0,none⟩),.agg #[.int .i64 1,.int .i64 n]] w (PrP K A W sv (atL zs (sayTy l 1 n))):=by
 have hA:=h.alloc (.cells #[.int .i64 1,.int .i64 n] 47)
 have hK:=lt_of_some h.row
 go_enter Tryz.func142,Tryz.ntmps142
 go_wp2_with fail
 refine (put1 K A W _ sv tv zs ⟨#[105,110,116]⟩ (sayTy l 1 n) rfl hA (by decide) hb _ (by simp)).mono ?_
 rintro e w2 ⟨rfl,t2,hp2⟩
 go_wp2_with fail
 refine bodyPost_end (results_none rfl _ _ _) rfl ?_
 exact⟨rfl,_,hp2⟩
theorem ty_2 (K:Nat) (A W w:World) (sv tv:Value) (zs:List Int) (l:List Sc) (n:Int) (h:Pr K A W w sv tv zs) (hb:zs.length+(sayTy l 2 n).length≤1000000) :
  Calls Tryz.prog 142 #[.pointer (some ⟨K,0,none⟩),.agg #[.int .i64 2,.int .i64 n]] w (PrP K A W sv (atL zs (sayTy l 2 n))):=by
 have hA:=h.alloc (.cells #[.int .i64 2,.int .i64 n] 47)
 have hK:=lt_of_some h.row
 go_enter Tryz.func142,Tryz.ntmps142
 go_wp2_with fail
 refine (put1 K A W _ sv tv zs ⟨#[102,108,111,97,116]⟩ (sayTy l 2 n) rfl hA (by decide) hb _ (by simp)).mono ?_
 rintro e w2 ⟨rfl,t2,hp2⟩
 go_wp2_with fail
 refine bodyPost_end (results_none rfl _ _ _) rfl ?_
 exact⟨rfl,_,hp2⟩
theorem ty_3 (K:Nat) (A W w:World) (sv tv:Value) (zs:List Int) (l:List Sc) (n:Int) (h:Pr K A W w sv tv zs) (hb:zs.length+(sayTy l 3 n).length≤1000000) (hl:RdL W 2 sv (Sc.dats l)) (h0:0≤n) (h1:n<l.length) (hnm:1≤(nmAt l n).length∧midB (nmAt l n)=true) :
  Calls Tryz.prog 142 #[.pointer (some ⟨K,0,none⟩),.agg #[.int .i64 3,.int .i64 n]] w (PrP K A W sv (atL zs (sayTy l 3 n))):=by
 have hA:=h.alloc (.cells #[.int .i64 3,.int .i64 n] 47)
 have hK:=lt_of_some h.row
 go_enter Tryz.func142,Tryz.ntmps142
 go_wp2_with fail
 refine (structName_any K A W _ sv tv zs l n hA hl h0 h1 hnm.1).mono ?_
 rintro e w1 ⟨s,rfl,hs,hw⟩
 obtain rfl:=hw.symm
 clear hw
 have hs1:midB (bytesOf s)=true:=by rw[hs];exact hnm.2
 go_wp2_with fail
 refine (put2 K A W _ sv tv zs ⟨#[42]⟩ s (sayTy l 3 n) (by rw[hs];simp[spread,bytesOf,sayTy];done) hA (by decide) hs1 hb _ (by simp)).mono ?_
 rintro e w2 ⟨rfl,t2,hp2⟩
 go_wp2_with fail
 refine bodyPost_end (results_none rfl _ _ _) rfl ?_
 exact⟨rfl,_,hp2⟩
theorem ty_4 (K:Nat) (A W w:World) (sv tv:Value) (zs:List Int) (l:List Sc) (n:Int) (h:Pr K A W w sv tv zs) (hb:zs.length+(sayTy l 4 n).length≤1000000) :
  Calls Tryz.prog 142 #[.pointer (some ⟨K,0,none⟩),.agg #[.int .i64 4,.int .i64 n]] w (PrP K A W sv (atL zs (sayTy l 4 n))):=by
 have hA:=h.alloc (.cells #[.int .i64 4,.int .i64 n] 47)
 have hK:=lt_of_some h.row
 go_enter Tryz.func142,Tryz.ntmps142
 go_wp2_with fail
 refine (put3 K A W _ sv tv zs ⟨#[91]⟩ ⟨#[93]⟩ ⟨#[105,110,116]⟩ (sayTy l 4 n) rfl hA (by decide) (by decide) (by decide) hb _ (by simp)).mono ?_
 rintro e w2 ⟨rfl,t2,hp2⟩
 go_wp2_with fail
 refine bodyPost_end (results_none rfl _ _ _) rfl ?_
 exact⟨rfl,_,hp2⟩
theorem ty_5 (K:Nat) (A W w:World) (sv tv:Value) (zs:List Int) (l:List Sc) (n:Int) (h:Pr K A W w sv tv zs) (hb:zs.length+(sayTy l 5 n).length≤1000000) :
  Calls Tryz.prog 142 #[.pointer (some ⟨K,0,none⟩),.agg #[.int .i64 5,.int .i64 n]] w (PrP K A W sv (atL zs (sayTy l 5 n))):=by
 have hA:=h.alloc (.cells #[.int .i64 5,.int .i64 n] 47)
 have hK:=lt_of_some h.row
 go_enter Tryz.func142,Tryz.ntmps142
 go_wp2_with fail
 refine (put3 K A W _ sv tv zs ⟨#[91]⟩ ⟨#[93]⟩ ⟨#[102,108,111,97,116]⟩ (sayTy l 5 n) rfl hA (by decide) (by decide) (by decide) hb _ (by simp)).mono ?_
 rintro e w2 ⟨rfl,t2,hp2⟩
 go_wp2_with fail
 refine bodyPost_end (results_none rfl _ _ _) rfl ?_
 exact⟨rfl,_,hp2⟩
theorem ty_6 (K:Nat) (A W w:World) (sv tv:Value) (zs:List Int) (l:List Sc) (n:Int) (h:Pr K A W w sv tv zs) (hb:zs.length+(sayTy l 6 n).length≤1000000) (hl:RdL W 2 sv (Sc.dats l)) (h0:0≤n) (h1:n<l.length) (hnm:1≤(nmAt l n).length∧midB (nmAt l n)=true) :
  Calls Tryz.prog 142 #[.pointer (some ⟨K,0,none⟩),.agg #[.int .i64 6,.int .i64 n]] w (PrP K A W sv (atL zs (sayTy l 6 n))):=by
 have hA:=h.alloc (.cells #[.int .i64 6,.int .i64 n] 47)
 have hK:=lt_of_some h.row
 go_enter Tryz.func142,Tryz.ntmps142
 go_wp2_with fail
 refine (structName_any K A W _ sv tv zs l n hA hl h0 h1 hnm.1).mono ?_
 rintro e w1 ⟨s,rfl,hs,hw⟩
 obtain rfl:=hw.symm
 clear hw
 have hs1:midB (bytesOf s)=true:=by rw[hs];exact hnm.2
 go_wp2_with fail
 refine (put4 K A W _ sv tv zs ⟨#[91]⟩ ⟨#[93]⟩ ⟨#[42]⟩ s (sayTy l 6 n) (by rw[hs];simp[spread,bytesOf,sayTy];done) hA (by decide) (by decide) (by decide) hs1 hb _ (by simp)).mono ?_
 rintro e w2 ⟨rfl,t2,hp2⟩
 go_wp2_with fail
 refine bodyPost_end (results_none rfl _ _ _) rfl ?_
 exact⟨rfl,_,hp2⟩
theorem ty_0 (K:Nat) (A W w:World) (sv tv:Value) (zs:List Int) (n:Int) (h:Pr K A W w sv tv zs) :
  Calls Tryz.prog 142 #[.pointer (some ⟨K,0,none⟩),.agg #[.int .i64 0,.int .i64 n]] w (PrP K A W sv zs):=by
 have hA:=h.alloc (.cells #[.int .i64 0,.int .i64 n] 47)
 go_enter Tryz.func142,Tryz.ntmps142
 go_wp2_with fail
 refine bodyPost_end (results_none rfl _ _ _) rfl ?_
 exact⟨rfl,_,hA⟩
def NamesTok (l:List Sc):Prop:=∀ x∈l,(1≤x.name.length∧x.name.length≤1000)∧midB x.name=true
theorem NamesTok.at {l:List Sc}(h:NamesTok l) {n:Int}(h0:0≤n) (h1:n<l.length):1≤(nmAt l n).length∧midB (nmAt l n)=true:=by
 have hN:n.toNat<l.length:=by omega
 have he:nmAt l n=l[n.toNat].name:=by unfold nmAt;rw[List.getElem?_eq_getElem hN]
 have:=h _ (List.getElem_mem hN)
 rw[he]
 exact⟨this.1.1,this.2⟩
def TyFine (l:List Sc) (k n:Int):Prop:=0≤k∧k≤6∧(k=3∨k=6→0≤n∧n<l.length)
theorem pty_any (K:Nat) (A W w:World) (sv tv:Value) (zs:List Int) (l:List Sc) (k n:Int) (h:Pr K A W w sv tv zs) (hl:RdL W 2 sv (Sc.dats l)) (hnm:NamesTok l) (ht:TyFine l k n) (hb:zs.length+(sayTy l k n).length≤1000000) :
  Calls Tryz.prog 142 #[.pointer (some ⟨K,0,none⟩),.agg #[.int .i64 k,.int .i64 n]] w (PrP K A W sv (atL zs (sayTy l k n))):=by
 obtain⟨k0,k6,hn⟩:=ht
 have:k=0∨k=1∨k=2∨k=3∨k=4∨k=5∨k=6:=by omega
 obtain rfl|rfl|rfl|rfl|rfl|rfl|rfl:=this
 ·rw[show sayTy l 0 n=[] from rfl,atL_nil];exact ty_0 K A W w sv tv zs n h
 ·exact ty_1 K A W w sv tv zs l n h hb
 ·exact ty_2 K A W w sv tv zs l n h hb
 ·exact ty_3 K A W w sv tv zs l n h hb hl (hn (.inl rfl)).1 (hn (.inl rfl)).2 (hnm.at (hn (.inl rfl)).1 (hn (.inl rfl)).2)
 ·exact ty_4 K A W w sv tv zs l n h hb
 ·exact ty_5 K A W w sv tv zs l n h hb
 ·exact ty_6 K A W w sv tv zs l n h hb hl (hn (.inr rfl)).1 (hn (.inr rfl)).2 (hnm.at (hn (.inr rfl)).1 (hn (.inr rfl)).2)
theorem ty_good {l:List Sc}(hnm:NamesTok l) {k n:Int}(ht:TyFine l k n):sayTy l k n=[]∨Good (sayTy l k n):=by
 obtain⟨k0,k6,hn⟩:=ht
 have:k=0∨k=1∨k=2∨k=3∨k=4∨k=5∨k=6:=by omega
 obtain rfl|rfl|rfl|rfl|rfl|rfl|rfl:=this
 ·exact .inl rfl
 ·exact .inr ⟨by simp[sayTy],rfl⟩
 ·exact .inr ⟨by simp[sayTy],rfl⟩
 ·exact .inr ⟨by show 2≤([32,42,32]++nmAt l n).length;simp,midB_append _ (hnm.at (hn (.inl rfl)).1 (hn (.inl rfl)).2).2⟩
 ·exact .inr ⟨by simp[sayTy],rfl⟩
 ·exact .inr ⟨by simp[sayTy],rfl⟩
 ·exact .inr ⟨by show 2≤([32,91,32,93,32,42,32]++nmAt l n).length;simp,midB_append _ (hnm.at (hn (.inr rfl)).1 (hn (.inr rfl)).2).2⟩
theorem BxT.kp {b K:Nat}{A:World}{cs:List Value}{t:TypeId}(h:BxT b A cs t) (ht:t≠5) (hK:b≠K) (i:Nat) (u:Value) (hu:cs[i]?=some u):∀ w',KP K A w'→w'.cell? ⟨b,i,none⟩=some u:=fun w' k=>BxT.cell (t:=t) (by unfold BxT at h ⊢;rw[k.2 b _ _ _ hK h ht];exact h) i u hu
theorem param_any (K:Nat) (A W w:World) (sv tv v0:Value) (zs:List Int) (l:List Sc) (nm:List Int) (k n:Int) (h:Pr K A W w sv tv zs) (hl:RdL W 2 sv (Sc.dats l)) (hnm:NamesTok l) (ht:TyFine l k n) (h0:RdN W v0 nm) (hm:midB nm=true) (h1:1≤nm.length) (hb:zs.length+(32::(nm++sayTy l k n)).length≤1000000) :
  Calls Tryz.prog 141 #[.pointer (some ⟨K,0,none⟩),.agg #[v0,.int .i64 k,.int .i64 n]] w (PrP K A W sv (atL zs (32::(nm++sayTy l k n)))):=by
 obtain⟨s,g0,off0,q,rfl,hg0,hs,hcv⟩:=nm_string h0 h1
 obtain⟨w1,hw1⟩:∃ w1,Hid (w1=w.alloc (.cells #[.slice (some ⟨g0,off0,none⟩) nm.length q,.int .i64 k,.int .i64 n] 57)):=⟨_,rfl⟩
 have hK:=lt_of_some h.row
 have hA:Pr K A W w1 sv tv zs:=by rw[hw1.out];exact h.alloc _
 have hsz:Hid (w.heap.size+1=w1.heap.size):=by rw[hw1.out];show _=_;simp
 have hbx:BxT w.heap.size w1 [.slice (some ⟨g0,off0,none⟩) nm.length q,.int .i64 k,.int .i64 n] 57:=by rw[hw1.out];exact BxT.new w _ _
 have HQ1:Hid (∀ w',KP K w1 w'→w'.cell? ⟨w.heap.size,1,none⟩=some (.int .i64 k)):=hbx.kp (by decide) (by omega) 1 _ rfl
 have HQ2:Hid (∀ w',KP K w1 w'→w'.cell? ⟨w.heap.size,2,none⟩=some (.int .i64 n)):=hbx.kp (by decide) (by omega) 2 _ rfl
 have hs1:midB (bytesOf s)=true:=by rw[hs];exact hm
 have cv:=hcv w1 hA.lat
 have HF:Hid (∀ w' t',Pr K w1 W w' sv t' (atL zs (32::(nm++sayTy l k n)))→PrP K A W sv (atL zs (32::(nm++sayTy l k n))) (.returned (.tuple #[])) w'):=fun w' t' hp=>⟨rfl,t',hp.back hA.kp⟩
 have hA1:=hA.from
 have hl1:(atL zs (32::nm)).length≤zs.length+(nm.length+1):=by have:=atL_len zs (32::nm);simpa using this
 have hl2:(32::(nm++sayTy l k n)).length=nm.length+(sayTy l k n).length+1:=by simp
 have hat:=atL_at zs (Good.cons hm) (sayTy l k n)
 rw[hl2]at hb
 generalize hQ:PrP K A W sv (atL zs (32::(nm++sayTy l k n)))=Q
 rw[hQ]at HF
 clear hQ hA h hbx hcv h0
 rw[hw1.out]at cv
 go_enter Tryz.func141,Tryz.ntmps141
 go_wp2_with fail
 rw[←hw1.out]
 refine (put1 K w1 W w1 sv tv zs s (32::nm) (by rw[hs];simp[spread]) hA1 hs1 (by rw[List.length_cons];omega) _ hsz.out).mono ?_
 rintro e w2 ⟨rfl,t2,hp2⟩
 have q1:=HQ1.out _ hp2.kp
 have q2:=HQ2.out _ hp2.kp
 go_wp2_with fail
 refine (pty_any K w1 W w2 sv t2 _ l k n hp2 hl hnm ht (by omega)).mono ?_
 rintro e w3 ⟨rfl,t3,hp3⟩
 rw[hat]at hp3
 go_wp2_with fail
 refine bodyPost_end (results_none rfl _ _ _) rfl ?_
 exact HF.out _ _ hp3
def tailG (sg:List Int):List (List Int)→List Int
 | []=>[]
 | x::r=>(32::sg)++x++tailG sg r
def joinG (sg:List Int):List (List Int)→List Int
 | []=>[]
 | x::r=>x++tailG sg r
theorem tailG_app (sg:List Int) (x y:List (List Int)):tailG sg (x++y)=tailG sg x++tailG sg y:=by
 induction x with
 | nil=>rfl
 | cons a r ih=>rw[List.cons_append,tailG,tailG,ih];simp only[List.append_assoc]
theorem joinG_step (sg:List Int) (ts:List (List Int)) (j:Nat) (h:j<ts.length):joinG sg (ts.take (j+1))=joinG sg (ts.take j)++(if j=0 then [] else 32::sg)++ts[j]:=by
 cases ts with
 | nil=>simp at h
 | cons x r =>
  cases j with
  | zero=>simp[joinG,tailG]
  | succ j =>
   have hj:j<r.length:=by simpa using h
   rw[List.take_succ_cons,List.take_succ_cons,joinG,joinG,List.take_add_one,tailG_app,List.getElem?_eq_getElem hj]
   simp[tailG]
theorem joinG_pre (sg:List Int) (ts:List (List Int)) (j:Nat):(joinG sg (ts.take j)).length≤(joinG sg ts).length:=by
 have h:∀ x y:List (List Int),(joinG sg x).length≤(joinG sg (x++y)).length:=by
  intro x y
  cases x with
  | nil=>simp[joinG]
  | cons a r=>rw[List.cons_append,joinG,joinG,tailG_app];simp only[List.length_append];omega
 have:=h (ts.take j) (ts.drop j)
 rwa [List.take_append_drop]at this
theorem joinG_at (sg:List Int) (ts:List (List Int)) (j:Nat) (h:j<ts.length):(joinG sg (ts.take j)).length+(if j=0 then 0 else sg.length+1)+ts[j].length≤(joinG sg ts).length:=by
 have h1:=joinG_pre sg ts (j+1)
 rw[joinG_step sg ts j h]at h1
 by_cases h0:j=0
 ·rw[if_pos h0]at h1 ⊢;simp only[List.length_append,List.length_nil]at h1;omega
 ·rw[if_neg h0]at h1 ⊢;simp only[List.length_append,List.length_cons]at h1;omega
theorem tailG_comma (ts:List (List Int)):tailG [44] ts=tailL ts:=by
 induction ts with
 | nil=>rfl
 | cons x r ih=>rw[tailG,tailL,ih]
theorem joinG_comma (ts:List (List Int)):joinG [44] ts=joinL ts:=by
 cases ts with
 | nil=>rfl
 | cons x r=>rw[joinG,joinL,tailG_comma]
theorem joinG_good (sg:List Int) (hsg:midB sg=true) (ts:List (List Int)) (hg:∀ t∈ts,Good t):∀ j,0<j→j≤ts.length→Good (joinG sg (ts.take j)):=by
 intro j h0 hj
 induction j with
 | zero=>exact absurd h0 (Nat.lt_irrefl _)
 | succ j ih =>
  rw[joinG_step sg ts j hj]
  have hG:=hg _ (List.getElem_mem hj)
  by_cases hz:j=0
  ·subst hz
   simpa[joinG] using hG
  ·rw[if_neg hz]
   exact ((ih (by omega) (by omega)).app (Good.cons hsg)).app hG
def KidP (W:World) (sv v1:Value) (m j:Nat) (t:List Int):Prop:=j<m∧∃ (g off cap:Nat) (k n tk tn:Int) (x0 x1:Option Addr) (y0 z0 y1 z1:Nat),v1=.slice (some ⟨g,off,none⟩) m cap∧g<W.heap.size ∧
 (∀ w',Later W w'→w'.cell? ⟨g,off+j*6,none⟩=some (.int .i64 k)∧w'.cell? ⟨g,off+j*6+1,none⟩=some (.int .i64 n)∧w'.cell? ⟨g,off+j*6+2,none⟩=some (.int .i64 tk)∧w'.cell? ⟨g,off+j*6+3,none⟩=some (.int .i64 tn)∧w'.cell? ⟨g,off+j*6+4,none⟩=some (.slice x0 y0 z0)∧w'.cell? ⟨g,off+j*6+5,none⟩=some (.slice x1 y1 z1)) ∧
 (∀ K A w tv zs,Pr K A W w sv tv zs→zs.length+t.length≤1000000→Calls Tryz.prog 182 #[.pointer (some ⟨K,0,none⟩),.agg #[.int .i64 k,.int .i64 n,.int .i64 tk,.int .i64 tn,.slice x0 y0 z0,.slice x1 y1 z1]] w (PrP K A W sv (atL zs t)))
def KidsP (W:World) (sv v1:Value) (ts:List (List Int)):Prop:=∃ a1 cap1,v1=.slice a1 ts.length cap1∧(∀ t∈ts,Good t)∧∀ (j:Nat) (hj:j<ts.length),KidP W sv (.slice a1 ts.length cap1) ts.length j ts[j]
theorem exprs_of (K:Nat) (A W w:World) (sv tv v1:Value) (zs sg:List Int) (s:ByteArray) (ts:List (List Int)) (h:Pr K A W w sv tv zs) (hks:KidsP W sv v1 ts) (hs:bytesOf s=sg) (hsg:midB sg=true) (hts:ts.length≤1000) (hb:zs.length+(joinG sg ts).length≤1000000) :
  Calls Tryz.prog 181 #[.pointer (some ⟨K,0,none⟩),v1,.string s] w (PrP K A W sv (atL zs (joinG sg ts))):=by
 obtain⟨a1,cap1,rfl,hg,hk⟩:=hks
 have hs1:midB (bytesOf s)=true:=by rw[hs];exact hsg
 have hsp:Hid (spread [bytesOf s]=32::sg):=by show _=_;rw[hs];simp[spread]
 have hss:Hid (bytesOf s=sg):=hs
 have hgd:Hid (∀ j,0<j→j≤ts.length→Good (joinG sg (ts.take j))):=joinG_good sg hsg ts hg
 have HKs:Hid (∀ (j:Nat) (hj:j<ts.length),KidP W sv (.slice a1 ts.length cap1) ts.length j ts[j]):=hk
 have HF:Hid (∀ w' t',Pr K w W w' sv t' (atL zs (joinG sg ts))→PrP K A W sv (atL zs (joinG sg ts)) (.returned (.tuple #[])) w'):=fun w' t' hp=>⟨rfl,t',hp.back h.kp⟩
 have hp0:=h.from
 generalize hQ:PrP K A W sv (atL zs (joinG sg ts))=Q
 rw[hQ]at HF
 clear hQ hk h hs hg
 go_enter Tryz.func181,Tryz.ntmps181
 go_wp2_with fail
 go_loopw [10] (fun i wr=>∃ (j:Nat) (tv':Value),i=.int .i64 (j:Int)∧j≤ts.length∧Pr K w W wr sv tv' (atL zs (joinG sg (ts.take j)))) (fun i _=>ts.length - (intOf i).toNat)
 case atStart=>exact⟨0,tv,rfl,Nat.zero_le _,by rw[List.take_zero,joinG,atL_nil];exact hp0⟩
 case round =>
  obtain⟨j,tv',rfl,hj,hp⟩:=hrel
  by_cases hlt:j<ts.length
  ·obtain⟨_,g,off,cap',k,n',tk',tn',x0,x1,y0,z0,y1,z1,e1,hgs,hcl,hcall⟩:=HKs.out j hlt
   cases e1
   obtain⟨d0,d1,d2,d3,d4,d5⟩:=hcl _ hp.lat
   have hat:=joinG_at sg ts j hlt
   have i1:(j:Int)<(ts.length:Int):=by omega
   have hl1:=atL_len zs (joinG sg (ts.take j))
   obtain⟨wb,hwb⟩:∃ wb,Hid (wb=wr.alloc (.cells #[.int .i64 k,.int .i64 n',.int .i64 tk',.int .i64 tn',.slice x0 y0 z0,.slice x1 y1 z1] 96)):=⟨_,rfl⟩
   have hK:=lt_of_some hp.row
   have hpb:Pr K w W wb sv tv' (atL zs (joinG sg (ts.take j))):=by rw[hwb.out];exact hp.alloc _
   have hbx:BxT wr.heap.size wb [.int .i64 k,.int .i64 n',.int .i64 tk',.int .i64 tn',.slice x0 y0 z0,.slice x1 y1 z1] 96:=by rw[hwb.out];exact BxT.new wr _ _
   have hsz:Hid (wr.heap.size+1=wb.heap.size):=by rw[hwb.out];show _=_;simp
   clear hcl
   by_cases h0:j=0
   ·rw[if_pos h0]at hat
    have hst:=joinG_step sg ts j hlt
    rw[if_pos h0]at hst
    have he:atL (atL zs (joinG sg (ts.take j))) ts[j]=atL zs (joinG sg (ts.take (j+1))):=by
     rw[hst]
     subst h0
     rw[List.take_zero,joinG,atL_nil]
     rfl
    have i2:¬ (0:Int)<(j:Int):=by omega
    have h0':Hid (j=0):=h0
    clear h0
    go_wp2_with fail
    refine (hcall K w _ tv' _ (hp.alloc _) (by omega)).mono ?_
    rintro e w2 ⟨rfl,t2,hp2⟩
    rw[he]at hp2
    go_wp2_with fail
    go_roundw
    case rel=>exact⟨j+1,_,by go_num,by omega,hp2⟩
    case measure=>simp[intOf];omega
   ·rw[if_neg h0]at hat
    have hst:=joinG_step sg ts j hlt
    rw[if_neg h0]at hst
    have hG:=hgd.out j (by omega) hj
    have he1:atL (atL zs (joinG sg (ts.take j))) (32::sg)=atL zs (joinG sg (ts.take j)++32::sg):=atL_at zs hG _
    have he:atL (atL zs (joinG sg (ts.take j)++32::sg)) ts[j]=atL zs (joinG sg (ts.take (j+1))):=by rw[hst];exact atL_at zs (hG.app (Good.cons hsg)) _
    have i2:(0:Int)<(j:Int):=by omega
    have hl2:=atL_len zs (joinG sg (ts.take j)++32::sg)
    rw[List.length_append,List.length_cons]at hl2
    have HC:Hid (∀ i u,[Value.int .i64 k,.int .i64 n',.int .i64 tk',.int .i64 tn',.slice x0 y0 z0,.slice x1 y1 z1][i]?=some u→∀ w',KP K wb w'→w'.cell? ⟨wr.heap.size,i,none⟩=some u):=fun i u hu=>hbx.kp (by decide) (by omega) i u hu
    have hbk:=hpb.kp
    have hpf:=hpb.from
    clear hbx hst hpb
    go_wp2_with fail
    rw[←hwb.out]
    refine (put1 K wb W wb sv tv' _ s (32::sg) hsp.out hpf hs1 (by rw[List.length_cons];omega) _ hsz.out).mono ?_
    rintro e w2 ⟨rfl,t2,hp2⟩
    rw[he1]at hp2
    have c0:=HC.out 0 _ rfl _ hp2.kp
    have c1:=HC.out 1 _ rfl _ hp2.kp
    have c2:=HC.out 2 _ rfl _ hp2.kp
    have c3:=HC.out 3 _ rfl _ hp2.kp
    have c4:=HC.out 4 _ rfl _ hp2.kp
    have c5:=HC.out 5 _ rfl _ hp2.kp
    go_wp2_with fail
    refine (hcall K w _ t2 _ (hp2.back hbk) (by omega)).mono ?_
    rintro e w3 ⟨rfl,t3,hp3⟩
    rw[he]at hp3
    go_wp2_with fail
    go_roundw
    case rel=>exact⟨j+1,_,by go_num,by omega,hp3⟩
    case measure=>simp[intOf];omega
  ·have hje:j=ts.length:=by omega
   have i1:¬ (j:Int)<(ts.length:Int):=by omega
   rw[hje,List.take_length]at hp
   go_wp2_with fail
   refine bodyPost_end (results_none rfl _ _ _) rfl ?_
   exact HF.out _ _ hp
theorem within_of (K:Nat) (A W w:World) (sv tv v1:Value) (zs fi la:List Int) (s0 s1:ByteArray) (ts:List (List Int)) (h:Pr K A W w sv tv zs) (hks:KidsP W sv v1 ts) (hs0:bytesOf s0=fi) (hs1:bytesOf s1=la) (hm0:midB fi=true) (hm1:midB la=true) (hts:ts.length≤1000) (hb:zs.length+((32::fi)++joinL ts++(32::la)).length≤1000000) :
  Calls Tryz.prog 183 #[.pointer (some ⟨K,0,none⟩),.string s0,v1,.string s1] w (PrP K A W sv (atL zs ((32::fi)++joinL ts++(32::la)))):=by
 have hp0:=h.from
 have hj:ts=[]∨Good (joinL ts):=by
  obtain⟨_,_,_,hg,_⟩:=hks
  cases ts with
  | nil=>exact .inl rfl
  | cons x r =>
   have:=joinG_good [44] rfl (x::r) hg (x::r).length (by simp) (Nat.le_refl _)
   rw[List.take_length,joinG_comma]at this
   exact .inr this
 have hsp0:spread [bytesOf s0]=32::fi:=by rw[hs0];simp[spread]
 have hsp1:spread [bytesOf s1]=32::la:=by rw[hs1];simp[spread]
 have hG1:Good ((32::fi)++joinL ts):=by
  rcases hj with rfl|hj
  ·rw[joinL,List.append_nil];exact Good.cons hm0
  ·exact (Good.cons hm0).app hj
 have he1:atL (atL zs (32::fi)) (joinG [44] ts)=atL zs ((32::fi)++joinL ts):=by rw[joinG_comma];exact atL_at zs (Good.cons hm0) _
 have he2:atL (atL zs ((32::fi)++joinL ts)) (32::la)=atL zs ((32::fi)++joinL ts++(32::la)):=atL_at zs hG1 _
 have hl1:=atL_len zs (32::fi)
 have hl2:=atL_len zs ((32::fi)++joinL ts)
 have hjl:(joinG [44] ts).length=(joinL ts).length:=by rw[joinG_comma]
 simp only[List.length_append,List.length_cons]at hb hl1 hl2
 have hm0':midB (bytesOf s0)=true:=by rw[hs0];exact hm0
 have hm1':midB (bytesOf s1)=true:=by rw[hs1];exact hm1
 obtain⟨T,hT⟩:∃ T,Hid (T=atL zs ((32::fi)++joinL ts++(32::la))):=⟨_,rfl⟩
 have HF:Hid (∀ w' t',Pr K w W w' sv t' T→PrP K A W sv T (.returned (.tuple #[])) w'):=fun w' t' hp=>⟨rfl,t',hp.back h.kp⟩
 rw[←hT.out]
 rw[←hT.out]at he2
 clear h hs0 hs1
 go_enter Tryz.func183,Tryz.ntmps183
 go_wp2_with fail
 refine (put1 K w W w sv tv zs s0 (32::fi) hsp0 hp0 hm0' (by rw[List.length_cons];omega) _ rfl).mono ?_
 rintro e w2 ⟨rfl,t2,hp2⟩
 go_wp2_with fail
 refine (exprs_of K w W w2 sv t2 v1 _ [44] ⟨#[44]⟩ ts hp2 hks rfl rfl hts (by omega)).mono ?_
 rintro e w3 ⟨rfl,t3,hp3⟩
 rw[he1]at hp3
 go_wp2_with fail
 refine (put1 K w W w3 sv t3 _ s1 (32::la) hsp1 hp3 hm1' (by rw[List.length_cons];omega) _ rfl).mono ?_
 rintro e w4 ⟨rfl,t4,hp4⟩
 rw[he2]at hp4
 go_wp2_with fail
 refine bodyPost_end (results_none rfl _ _ _) rfl ?_
 exact HF.out _ _ hp4
end Go.Proofs.YtmdejbphoafjlaaGreatDoor
