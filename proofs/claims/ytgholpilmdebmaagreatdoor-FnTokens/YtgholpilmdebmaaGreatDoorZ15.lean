import Derived.Test.YtgholpilmdebmaaGreatDoorZ14
import Derived.Test.YtgholpilmdebmaaGreatDoorZ09
import Derived.Test.YtgholpilmdebmaaGreatDoorZ08
import Derived.Test.YtgholpilmdebmaaGreatDoorZ10
set_option maxHeartbeats 100000000
set_option maxRecDepth 100000
namespace Go.Proofs.YtgholpilmdebmaaGreatDoor
open Go.RowKit Go.Lib
theorem digF_dig:∀ (k u:Nat),∀ z∈digF k u,48≤z∧z≤57
 | 0,_,z,h=>by simp[digF]at h
 | k+1,u,z,h=>by
  unfold digF at h;split at h
  ·rw[List.mem_singleton]at h;omega
  ·rw[List.mem_append]at h;rcases h with h|h
   ·exact digF_dig k _ z h
   ·rw[List.mem_singleton]at h;omega
theorem tok_sign {p:List Int}{z:Int}(hi:inner z=false) (hp:p=[z]∨p=[61,61]∧z=61):tokL p=if sign z then some (4,0,p) else none:=by
 have hlu:low z=false∧up z=false∧dig z=false:=by
  unfold inner at hi;rw[Bool.or_eq_false_iff,Bool.or_eq_false_iff]at hi;exact⟨hi.1.1,hi.1.2,hi.2⟩
 have hnd:¬ (48≤z∧z≤57):=fun h=>by
  have:=hlu.2.2;unfold dig at this;rw[decide_eq_true h.1,decide_eq_true h.2]at this
  cases this
 have hfst:p.getD 0 0=z:=by
  rcases hp with rfl|⟨rfl,rfl⟩ <;> rfl
 have h1:KL.intOfL p=none:=KL.intOfL_none (fun m hm e=>by
  by_cases h0:m<0
  ·rw[KL.decL_neg h0]at e;rcases hp with rfl|⟨rfl,rfl⟩
   ·have hq:=zea 19 (-m).toNat;have h2:=(List.cons.inj e).2;rw[←h2]at hq;exact absurd hq (Nat.lt_irrefl _)
   ·have:=(List.cons.inj e).1;exact absurd this (by decide)
  ·rw[KL.decL_nonneg h0]at e;refine hnd (digF_dig 20 m.toNat z ?_);rw[←e];rcases hp with rfl|⟨rfl,rfl⟩
   ·exact List.mem_singleton.2 rfl
   ·exact List.mem_cons_self ..)
 have h2:KL.floatOfL p=none:=KL.flo_none (fun h=>by
  rcases hp with rfl|⟨rfl,rfl⟩
  ·exact absurd h.1 (show ¬ (1=18) by decide)
  ·exact absurd h.1 (show ¬ (2=18) by decide))
 have h3:wordL p false=false:=by
  unfold wordL;rw[hfst,if_neg (by decide),hlu.1];simp
 have h4:wordL p true=false:=by
  unfold wordL;rw[hfst,if_pos rfl,hlu.2.1];simp
 have h5:signT p=sign z:=by
  unfold signT;rcases hp with rfl|⟨rfl,rfl⟩
  ·show (decide (1=1)&&sign z||decide ([z]=[61,61]))=sign z;rw[decide_eq_false (show ¬ [z]=[61,61] by simp)];simp
  ·decide
 unfold tokL;rw[h1,h2,h3,h4,h5];rfl
theorem zdo {z:Int}(h:inner z=true):sign z=false∧z≠61:=by
 unfold inner low up dig at h
 have hq:(97≤z∧z≤122)∨(65≤z∧z≤90)∨(48≤z∧z≤57):=by
  simp only[Bool.or_eq_true,Bool.and_eq_true,decide_eq_true_eq]at h;omega
 refine⟨sign_false (fun j hj e=>?_),by omega⟩;have:∀ j,j<16→¬ ((97≤signL.getD j 0∧signL.getD j 0≤122)∨(65≤signL.getD j 0∧signL.getD j 0≤90)∨(48≤signL.getD j 0∧signL.getD j 0≤57)):=by decide
 exact this j hj (by rw[e];exact hq)
theorem tok_piece {p:List Int}(i:Nat) (h0:inner (p.getD 0 0)=true∨(p.getD 0 0=45∧p.length≠1)):(tokL p).map (fun t=>(t.1,(i:Int),t.2.1,t.2.2))=KL.pieceT p i:=by
 have h5:signT p=false:=by
  unfold signT;rw[Bool.or_eq_false_iff];constructor
  ·rw[Bool.and_eq_false_iff];rcases h0 with h|h
   ·exact .inr (zdo h).1
   ·exact .inl (decide_eq_false h.2)
  ·refine decide_eq_false (fun e=>?_);rw[e]at h0;rcases h0 with h|h
   ·exact (zdo h).2 rfl
   ·exact absurd h.1 (by decide)
 unfold tokL KL.pieceT
 cases KL.intOfL p with
 | some n=>rfl
 | none =>
  cases KL.floatOfL p with
  | some m=>rfl
  | none =>
   simp only;rw[h5];by_cases hw:(wordL p false||wordL p true)=true
   ·rw[if_pos hw,if_pos hw];rfl
   ·rw[if_neg hw,if_neg hw];rfl
theorem size_in {zs:List Int}{i:Nat}(hi:i<zs.length):1≤sizeL zs i∧i+sizeL zs i≤zs.length:=by
 unfold sizeL;split
 ·have h1:=KL.pieceE_ge zs (i+1);have h2:=KL.pieceE_le (zs:=zs) (j:=i+1) (by omega);omega
 ·unfold KL.signE;split
  ·rename_i h
   rw[Bool.and_eq_true,Bool.and_eq_true,decide_eq_true_eq]at h;omega
  ·omega
theorem cut_first {zs:List Int}{i:Nat}(hi:i<zs.length):(KL.cutL zs i (i+sizeL zs i)).length=sizeL zs i∧(KL.cutL zs i (i+sizeL zs i)).getD 0 0=zs.getD i 0:=by
 obtain⟨h1,h2⟩:=size_in hi;exact⟨by rw[KL.cutL_len h2];omega,by rw[KL.cutL_get h2 (by omega)];rfl⟩
theorem step_tok {zs:List Int}{i:Nat}(hi:i<zs.length) (hb:KL.blankB (zs.getD i 0)=false):KL.stepL zs i=(tokL (KL.cutL zs i (i+sizeL zs i))).map fun t=>([(t.1,(i:Int),t.2.1,t.2.2)],i+sizeL zs i):=by
 obtain⟨h1,h2⟩:=size_in hi;obtain⟨c1,c2⟩:=cut_first hi;unfold KL.stepL;rw[hb,if_neg (by decide)]
 cases hs:KL.startB zs i with
 | true =>
  have hsz:i+sizeL zs i=KL.pieceE zs (i+1):=by
   have:=KL.pieceE_ge zs (i+1);unfold sizeL;rw[hs,if_pos rfl];omega
  rw[if_pos rfl,← hsz,← tok_piece (p:=KL.cutL zs i (i+sizeL zs i)) i ?_,Option.map_map]
  ·rfl
  ·rw[c1,c2];unfold KL.startB at hs;rw[Bool.or_eq_true]at hs;rcases hs with h|h
   ·exact .inl h
   ·rw[Bool.and_eq_true,Bool.and_eq_true,beq_iff_eq,decide_eq_true_eq]at h;refine .inr ⟨h.1.1,fun e=>?_⟩
    -- the piece goes on over the digit
    have hin:inner (zs.getD (i+1) 0)=true:=by unfold inner;rw[h.2,Bool.or_true]
    have hP:=(KL.Piece.start zs (i+1)).next h.1.2 hin
    obtain⟨f,_,e2⟩:=hP;have:=(KL.pieceF_ge zs f (i+1+1)).1;rw[e2]at this;omega
 | false =>
  rw[if_neg (by decide)]
  have hsz:i+sizeL zs i=KL.signE zs i:=by
   have:i+1≤KL.signE zs i:=by unfold KL.signE;split <;> omega
   unfold sizeL;rw[hs,if_neg (by decide)];omega
  have hin:inner (zs.getD i 0)=false:=by
   unfold KL.startB at hs;rw[Bool.or_eq_false_iff]at hs;exact hs.1
  rw[←hsz,tok_sign (p:=KL.cutL zs i (i+sizeL zs i)) hin ?_]
  ·by_cases hg:sign (zs.getD i 0)=true
   ·rw[if_pos hg,if_pos hg];rfl
   ·rw[if_neg hg,if_neg hg];rfl
  ·rw[hsz]at c1 c2 ⊢;unfold KL.signE at *;by_cases hc:((zs.getD i 0==61)&&decide (i+1<zs.length)&&(zs.getD (i+1) 0==61))=true
   ·rw[if_pos hc]at *;rw[Bool.and_eq_true,Bool.and_eq_true,beq_iff_eq,beq_iff_eq,decide_eq_true_eq]at hc
    right
    refine⟨?_,hc.1.1⟩;have g0:=KL.cutL_get (zs:=zs) (i:=i) (j:=i+2) (m:=0) (by omega) (by omega);have g1:=KL.cutL_get (zs:=zs) (i:=i) (j:=i+2) (m:=1) (by omega) (by omega);have gl:=KL.cutL_len (zs:=zs) (i:=i) (j:=i+2) (by omega)
    generalize KL.cutL zs i (i+2)=p at *
    match p,gl with
    | [a,b],_ =>
     have ga:a=zs.getD i 0:=g0;have gb:b=zs.getD (i+1) 0:=g1;rw[ga,gb,hc.1.1,hc.2]
    | [],gl=>exact absurd gl (by rw[List.length_nil];omega)
    | [a],gl=>exact absurd gl (by rw[List.length_cons,List.length_nil];omega)
    | a::b::c::r,gl=>exact absurd gl (by rw[List.length_cons,List.length_cons,List.length_cons];omega)
   ·rw[if_neg hc]at *
    left
    have gl:=KL.cutL_len (zs:=zs) (i:=i) (j:=i+1) (by omega)
    generalize KL.cutL zs i (i+1)=p at *
    match p,gl with
    | [a],_ =>
     have ga:a=zs.getD i 0:=c2;rw[ga]
    | [],gl=>exact absurd gl (by rw[List.length_nil];omega)
    | a::b::r,gl=>exact absurd gl (by rw[List.length_cons,List.length_cons];omega)
end Go.Proofs.YtgholpilmdebmaaGreatDoor
namespace Go.Proofs.YtgholpilmdebmaaGreatDoor.KL
open Go.RowKit
def layOf (p:Tok × Value):Lay:=((match p.2.ownBlock with|some g=>g|none=>0),0,p.1.2.2.2.length)
theorem text_form {w:World}{base n:Nat}{v:Value}{zs:List Int}(h:w.ownsRow base 5 1 v n (zs.map (Value.int .u8))):∃ ta tc,v=.slice ta n tc∧(0<n→∃ g,v.ownBlock=some g∧ta=some ⟨g,0,none⟩):=by
 rcases h.2 with ⟨rfl,h0⟩|⟨g,cap,_,rfl,_⟩
 ·exact⟨none,0,by rw[h0],fun hn=>by omega⟩
 ·exact⟨_,_,rfl,fun _=>⟨g,rfl,rfl⟩⟩
structure OutF (base:Nat) (w:World) (v:Value) (ps:List (Tok × Value)):Prop where
 row:w.ownsRow base 28 4 v ps.length (flatT ps)
 text:∀ p∈ps,TxtF base w p.2 p.1.2.2.2∧(∀ j,isB (p.1.2.2.2.getD j 0))∧p.1.2.2.2.length≤6000
 emp:ps=[]→v=.slice none 0 0
 apart:ps.Pairwise fun a b=>0<a.1.2.2.2.length→0<b.1.2.2.2.length→∀ g,a.2.ownBlock=some g→b.2.ownBlock≠some g
theorem OutF.nil (base:Nat) (w:World):OutF base w (.slice none 0 0) []:=⟨World.ownsRow_nil _ _ _ _,(fun p hp=>by cases hp),fun _=>rfl,List.Pairwise.nil⟩
theorem txt_keep {base:Nat}{w w':World}{v:Value}{t:List Int}(h:TxtF base w v t) (hk:∀ g,v.ownBlock=some g→0<t.length→g<w.heap.size→w'.heap[g]?=w.heap[g]?):TxtF base w' v t:=by
 rcases h with h|⟨g,cap,rfl,hb,hk',hc⟩
 ·exact .inl h
 ·refine .inr ⟨g,cap,rfl,hb,hk',fun j hj=>?_⟩;obtain⟨c1,c2⟩:=hc j hj;have hbk:=hk g rfl (by omega) (zbl c1);exact⟨(World.cell?_of_block (w:=w) (w':=w') (a:=⟨g,j,none⟩) hbk).trans c1,(World.frozen?_of_block (w:=w) (w':=w') (a:=⟨g,j,none⟩) hbk).trans c2⟩
theorem txt_weak {b1 b2:Nat}{w:World}{v:Value}{t:List Int}(h:TxtF b1 w v t) (hb:b2≤b1):TxtF b2 w v t:=by
 rcases h with h|⟨g,cap,e,h1,hk,hc⟩
 ·exact .inl h
 ·exact .inr ⟨g,cap,e,by omega,hk,hc⟩
theorem OutF.later {base:Nat}{w w':World}{v:Value}{ps:List (Tok × Value)}(h:OutF base w v ps) (hl:Later w w'):OutF base w' v ps :=
 ⟨h.row.kept (row:=none) ⟨hl.os,hl.tape,hl.output,hl.size,fun k hk _=>hl.block k hk⟩ (by cases hv:v.ownBlock <;> simp),fun p hp=>⟨txt_keep (h.text p hp).1 (fun g _ _ hg=>hl.block g hg),(h.text p hp).2⟩,h.emp,h.apart⟩
theorem txt_form {w:World}{base:Nat}{v:Value}{zs:List Int}(h:TxtF base w v zs):∃ ta tc,v=.slice ta zs.length tc∧(0<zs.length→∃ g,v.ownBlock=some g∧ta=some ⟨g,0,none⟩):=by
 rcases h with ⟨rfl,rfl⟩|⟨g,cap,rfl,_⟩
 ·exact⟨none,0,rfl,fun hn=>absurd hn (Nat.lt_irrefl _)⟩
 ·exact⟨_,_,rfl,fun _=>⟨g,rfl,rfl⟩⟩
theorem txt_cell {w:World}{base:Nat}{p:Tok × Value}(h:TxtF base w p.2 p.1.2.2.2) {i:Nat}(hi:i<p.1.2.2.2.length):w.cell? ⟨(layOf p).1,(layOf p).2.1+i,none⟩=some (.int .u8 (p.1.2.2.2.getD i 0))∧w.frozen? ⟨(layOf p).1,(layOf p).2.1+i,none⟩=false∧base≤(layOf p).1∧p.2.ownBlock=some (layOf p).1:=by
 obtain⟨t,v⟩:=p;rcases h with ⟨h0,_⟩|⟨g,cap,hv,hb,_,hc⟩
 ·simp only at h0 hi;rw[h0]at hi;exact absurd hi (Nat.not_lt_zero _)
 ·simp only at hv hi hc ⊢;subst hv;have e:(layOf (t,Value.slice (some ⟨g,0,none⟩) t.2.2.2.length cap)).1=g:=rfl;have e2:(layOf (t,Value.slice (some ⟨g,0,none⟩) t.2.2.2.length cap)).2.1=0:=rfl;rw[e,e2,Nat.zero_add];exact⟨(hc i hi).1,(hc i hi).2,hb,rfl⟩
theorem row_first {base:Nat}{w:World}{v:Value}{ps:List (Tok × Value)}(h:w.ownsRow base 28 4 v ps.length (flatT ps)) (h0:0<ps.length) {g:Nat}(hg:v.ownBlock=some g):∃ n,w.cell? ⟨g,0,none⟩=some (.int .i64 n):=by
 rcases h.2 with ⟨rfl,e⟩|⟨g',cap,cur,rfl,_⟩
 ·cases hg
 ·cases hg
  obtain⟨c0,_⟩:=flatT_get ps 0 h0;rw[←h.cellAt (0*4) (by omega)]at c0;exact⟨_,c0⟩
theorem OutF.lts {base:Nat}{w:World}{v:Value}{ps:List (Tok × Value)}(h:OutF base w v ps):(∀ g,v.ownBlock=some g→g<w.heap.size)∧∀ p∈ps,0<p.1.2.2.2.length→∀ g,p.2.ownBlock=some g→g<w.heap.size:=by
 refine⟨fun g hg=>(h.row.lt g hg).2,fun p hp hn g hg=>?_⟩;obtain⟨q1,_,_,q2⟩:=txt_cell (h.text p hp).1 hn;rw[q2]at hg
 cases hg
 exact zbl q1
theorem OutF.push {base N:Nat}{w w':World}{v v':Value}{ps:List (Tok × Value)}(h:OutF base w v ps) (t:Tok) (tv:Value) (ht:TxtF N w tv t.2.2.2) (hN:base≤N) (hvN:∀ g,v.ownBlock=some g→g<N) (hpN:∀ p∈ps,0<p.1.2.2.2.length→∀ g,p.2.ownBlock=some g→g<N) (hb:∀ j,isB (t.2.2.2.getD j 0)) (hl:t.2.2.2.length≤6000)
  (ho:w'.ownsRow base 28 4 v' (ps.length+1) (flatT ps++[.int .i64 t.1,.int .i64 t.2.1,.int .i64 t.2.2.1,tv])) (hg:w.grownBy w' v.ownBlock):OutF base w' v' (ps++[(t,tv)]):=by
 have hnew:∀ g,tv.ownBlock=some g→0<t.2.2.2.length→N≤g:=fun g hq hn=>by
  have:=txt_cell (p:=(t,tv)) ht hn;have h2:=this.2.2.2;simp only at h2;rw[hq]at h2
  cases h2
  exact this.2.2.1
 refine⟨?_,fun p hp=>?_,fun e=>by simp at e,?_⟩
 ·rw[flatT_append,List.length_append];exact ho
 ·rcases List.mem_append.1 hp with hp|hp
  ·refine⟨txt_keep (h.text p hp).1 (fun g hq hn hlt=>hg.block g hlt (fun e=>?_)),(h.text p hp).2⟩;obtain⟨n,q0⟩:=row_first h.row (List.length_pos_of_mem hp) e.symm;obtain⟨q1,_,_,q2⟩:=txt_cell (h.text p hp).1 hn;rw[q2]at hq
   cases hq
   have el:(layOf p).2.1+0=0:=rfl;rw[el,q0]at q1
   cases q1
  ·rw[List.mem_singleton.1 hp];refine⟨txt_keep (txt_weak ht hN) (fun g hq hn hlt=>hg.block g hlt (fun e=>?_)),hb,hl⟩;have h1:=hnew g hq hn;have h2:=hvN g e.symm;omega
 ·rw[List.pairwise_append];refine⟨h.apart,List.pairwise_singleton _ _,fun a ha b hb' h1 h2 g hg' e=>?_⟩;rw[List.mem_singleton.1 hb']at h2 e;have q1:=hpN a ha h1 g hg';have q2:=hnew g e h2;omega
end Go.Proofs.YtgholpilmdebmaaGreatDoor.KL
namespace Go.Proofs.YtgholpilmdebmaaGreatDoor
open Go.RowKit Go.Maps
def TkB (zs:List Int) (t:KL.Tok):Prop:=∃ i:Nat,t.2.1=(i:Int)∧i<zs.length∧(t.1=1∨t.1=4→0<t.2.2.2.length∧t.2.2.2.getD 0 0=zs.getD i 0)
theorem signE_b (zs:List Int) (i:Nat) (h:i<zs.length):i<KL.signE zs i∧KL.signE zs i≤zs.length:=by
 unfold KL.signE;split
 ·rename_i q
  simp at q;omega
 ·omega
theorem cut_head {zs:List Int}{i j:Nat}(h:i<j) (hj:j≤zs.length):0<(KL.cutL zs i j).length∧(KL.cutL zs i j).getD 0 0=zs.getD i 0:=by
 refine⟨by rw[KL.cutL_len hj];omega,?_⟩;rw[KL.cutL_get hj (by omega),Nat.add_zero]
theorem step_ok {zs:List Int}{i j:Nat}{ts:List KL.Tok}(hi:i<zs.length) (h:KL.stepL zs i=some (ts,j)):i<j∧(ts=[]∨∃ t,ts=[t]∧t.2.1=(i:Int)∧TkB zs t):=by
 unfold KL.stepL at h;split at h
 ·cases h
  exact⟨by omega,.inl rfl⟩
 ·split at h
  ·have hg:=KL.pieceE_ge zs (i+1);have hl:=KL.pieceE_le (zs:=zs) (j:=i+1) (by omega);have hc:=cut_head (zs:=zs) (i:=i) (j:=KL.pieceE zs (i+1)) (by omega) hl
   generalize KL.cutL zs i (KL.pieceE zs (i+1))=p at *
   unfold KL.pieceT at h;split at h
   ·cases h
    exact⟨by omega,.inr ⟨_,rfl,rfl,i,rfl,hi,fun q=>by rcases q with q|q <;> cases q⟩⟩
   ·split at h
    ·cases h
     exact⟨by omega,.inr ⟨_,rfl,rfl,i,rfl,hi,fun q=>by rcases q with q|q <;> cases q⟩⟩
    ·split at h
     ·cases h
      exact⟨by omega,.inr ⟨_,rfl,rfl,i,rfl,hi,fun _=>hc⟩⟩
     ·cases h
  ·split at h
   ·cases h
    have hs:=signE_b zs i hi;exact⟨hs.1,.inr ⟨_,rfl,rfl,i,rfl,hi,fun _=>cut_head hs.1 hs.2⟩⟩
   ·cases h
structure Lx (zs:List Int) (acc:List KL.Tok) (k:Nat):Prop where
 tk:∀ t∈acc,TkB zs t∧t.2.1<(k:Int)
 up:acc.Pairwise fun a b=>a.2.1<b.2.1
theorem lexR_ok (zs:List Int):∀ (f k:Nat) (acc:List KL.Tok),Lx zs acc k→((KL.lexR zs f k acc).2=-1∧(∃ m,Lx zs (KL.lexR zs f k acc).1 m))∨∃ i:Nat,i<zs.length∧KL.lexR zs f k acc=([],(i:Int))
 | 0,k,acc,h=>.inl ⟨rfl,k,h⟩
 | f+1,k,acc,h=>by
  rw[KL.lexR];split
  ·rename_i hk
   have hk':k<zs.length:=by simpa using hk
   cases hs:KL.stepL zs k with
   | none=>exact .inr ⟨k,hk',rfl⟩
   | some p =>
    obtain⟨ts,j⟩:=p;obtain⟨hj,ht⟩:=step_ok hk' hs;refine lexR_ok zs f j (acc++ts) ?_;rcases ht with rfl|⟨t,rfl,e,hb⟩
    ·rw[List.append_nil];exact⟨fun t q=>⟨(h.tk t q).1,by have:=(h.tk t q).2;omega⟩,h.up⟩
    ·refine⟨fun x q=>?_,?_⟩
     ·rcases List.mem_append.1 q with q|q
      ·exact⟨(h.tk x q).1,by have:=(h.tk x q).2;omega⟩
      ·obtain rfl:=List.mem_singleton.1 q;exact⟨hb,by omega⟩
     ·rw[List.pairwise_append];refine⟨h.up,List.pairwise_singleton _ _,fun x hx y hy=>?_⟩;obtain rfl:=List.mem_singleton.1 hy;rw[e];exact (h.tk x hx).2
  ·exact .inl ⟨rfl,k,h⟩
theorem lexL_ok (zs:List Int):((KL.lexL zs).2=-1∧(∃ m,Lx zs (KL.lexL zs).1 m))∨∃ i:Nat,i≤zs.length∧KL.lexL zs=([],(i:Int)):=by
 unfold KL.lexL;split
 ·exact .inr ⟨0,Nat.zero_le _,rfl⟩
 ·rcases lexR_ok zs zs.length 0 [] ⟨fun t q=>(by cases q),List.Pairwise.nil⟩ with h|⟨i,hi,e⟩
  ·exact .inl h
  ·exact .inr ⟨i,by omega,e⟩
theorem lex_one:KL.lexL [120,32,45,32,53]=([(1,0,0,[120]),(4,2,0,[45]),(2,4,5,[])],-1):=by kernel_rfl
theorem out_tok {base:Nat}{w:World}{v:Value}{ps:List (KL.Tok × Value)}(h:KL.OutF base w v ps) (i:Nat) (hi:i<ps.length):∃ g cap ta tc,v=.slice (some ⟨g,0,none⟩) ps.length cap∧w.cell? ⟨g,i*4,none⟩=some (.int .i64 ps[i].1.1)∧w.cell? ⟨g,i*4+1,none⟩=some (.int .i64 ps[i].1.2.1)∧w.cell? ⟨g,i*4+3,none⟩=some (.slice ta ps[i].1.2.2.2.length tc)∧(0<ps[i].1.2.2.2.length→∃ b,ta=some ⟨b,0,none⟩∧w.cell? ⟨b,0,none⟩=some (.int .u8 (ps[i].1.2.2.2.getD 0 0))):=by
 have hr:=h.row;have ht:=(h.text ps[i] (List.getElem_mem hi)).1;rcases hr.2 with ⟨_,e⟩|⟨g,cap,cur,e,_⟩
 ·omega
 ·rw[e]at hr;obtain⟨c0,c1,c2,c3⟩:=KL.flatT_get ps i hi;have hc:∀ m,m<4→w.cell? ⟨g,i*4+m,none⟩=(KL.flatT ps)[i*4+m]?:=fun m hm=>hr.cellAt _ (by omega);have d0:=(hc 0 (by omega)).trans c0;have d1:=(hc 1 (by omega)).trans c1;have d3:=(hc 3 (by omega)).trans c3;rcases ht with ⟨e0,ev⟩|⟨b,tc,ev,_,_,hk⟩
  ·refine⟨g,cap,none,0,e,d0,d1,?_,fun q=>by rw[e0]at q;exact absurd q (Nat.lt_irrefl _)⟩;rw[d3,ev,e0];rfl
  ·refine⟨g,cap,some ⟨b,0,none⟩,tc,e,d0,d1,?_,fun q=>⟨b,rfl,(hk 0 q).1⟩⟩;rw[d3,ev]
end Go.Proofs.YtgholpilmdebmaaGreatDoor
