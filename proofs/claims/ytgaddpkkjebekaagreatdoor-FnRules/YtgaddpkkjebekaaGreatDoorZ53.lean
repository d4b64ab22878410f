import Derived.Test.YtgaddpkkjebekaaGreatDoorZ52
import Derived.Test.YtgaddpkkjebekaaGreatDoorZ50
import Derived.Test.YtgaddpkkjebekaaGreatDoorZ38
set_option maxHeartbeats 100000000
set_option maxRecDepth 100000
namespace Go.Proofs.YtgaddpkkjebekaaGreatDoor
open Go.RowKit Go.Lib
theorem nY:∀ (k u:Nat),∀ z∈kE k u,48<=z/\z<=57
 | 0,_,z,h=>by simp[kE]at h
 | k+1,u,z,h=>by
  unfold kE at h;split at h
  ·rw[List.mem_singleton]at h;omega
  ·rw[List.mem_append]at h;rcases h with h|h
   ·exact nY k _ z h
   ·rw[List.mem_singleton]at h;omega
theorem NQ {p:List Int}{z:Int}(hi:inner z=false) (hp:p=[z]\/p=[61,61]/\z=61):qp p=if sign z then some (4,0,p) else none:=by
 have hlu:low z=false/\up z=false/\dig z=false:=by
  unfold inner at hi;rw[Bool.or_eq_false_iff,Bool.or_eq_false_iff]at hi;exact⟨hi.1.1,hi.1.2,hi.2⟩
 have hnd:¬ (48<=z/\z<=57):=fun h=>by
  have:=hlu.2.2;unfold dig at this;rw[decide_eq_true h.1,decide_eq_true h.2]at this
  cases this
 have hfst:p.getD 0 0=z:=by
  rcases hp with rfl|⟨rfl,rfl⟩ <;> rfl
 have h1:KL.jH p=none:=KL.mr (fun m hm e=>by
  by_cases h0:m<0
  ·rw[KL.GG h0]at e;rcases hp with rfl|⟨rfl,rfl⟩
   ·have hq:=Bq 19 (-m).toNat;have h2:=(List.cons.inj e).2;rw[<-h2]at hq;exact absurd hq (Nat.lt_irrefl _)
   ·have:=(List.cons.inj e).1;exact absurd this (by decide)
  ·rw[KL.yN h0]at e;refine hnd (nY 20 m.toNat z ?_);rw[<-e];rcases hp with rfl|⟨rfl,rfl⟩
   ·exact List.mem_singleton.2 rfl
   ·exact List.mem_cons_self ..)
 have h2:KL.dB p=none:=KL.Gn (fun h=>by
  rcases hp with rfl|⟨rfl,rfl⟩
  ·exact absurd h.1 (show ¬ (1=18) by decide)
  ·exact absurd h.1 (show ¬ (2=18) by decide))
 have h3:aY p false=false:=by
  unfold aY;rw[hfst,if_neg (by decide),hlu.1];simp
 have h4:aY p true=false:=by
  unfold aY;rw[hfst,if_pos rfl,hlu.2.1];simp
 have h5:lT p=sign z:=by
  unfold lT;rcases hp with rfl|⟨rfl,rfl⟩
  ·show (decide (1=1)&&sign z||decide ([z]=[61,61]))=sign z;rw[decide_eq_false (show ¬ [z]=[61,61] by simp)];simp
  ·decide
 unfold qp;rw[h1,h2,h3,h4,h5];rfl
theorem wZ {z:Int}(h:inner z=true):sign z=false/\z≠61:=by
 unfold inner low up dig at h
 have hq:(97<=z/\z<=122)\/(65<=z/\z<=90)\/(48<=z/\z<=57):=by
  simp only[Bool.or_eq_true,Bool.and_eq_true,decide_eq_true_eq]at h;omega
 refine⟨zN (fun j hj e=>?_),by omega⟩;have:∀ j,j<16->¬ ((97<=eU.getD j 0/\eU.getD j 0<=122)\/(65<=eU.getD j 0/\eU.getD j 0<=90)\/(48<=eU.getD j 0/\eU.getD j 0<=57)):=by decide
 exact this j hj (by rw[e];exact hq)
theorem KR {p:List Int}(i:Nat) (h0:inner (p.getD 0 0)=true\/(p.getD 0 0=45/\p.length≠1)):(qp p).map (fun t=>(t.1,(i:Int),t.2.1,t.2.2))=KL.uY p i:=by
 have h5:lT p=false:=by
  unfold lT;rw[Bool.or_eq_false_iff];constructor
  ·rw[Bool.and_eq_false_iff];rcases h0 with h|h
   ·exact .inr (wZ h).1
   ·exact .inl (decide_eq_false h.2)
  ·refine decide_eq_false (fun e=>?_);rw[e]at h0;rcases h0 with h|h
   ·exact (wZ h).2 rfl
   ·exact absurd h.1 (by decide)
 unfold qp KL.uY
 cases KL.jH p with
 | some n=>rfl
 | none =>
  cases KL.dB p with
  | some m=>rfl
  | none =>
   simp only;rw[h5];by_cases hw:(aY p false||aY p true)=true
   ·rw[if_pos hw,if_pos hw];rfl
   ·rw[if_neg hw,if_neg hw];rfl
theorem DK {zs:List Int}{i:Nat}(hi:i<zs.length):1<=fJ zs i/\i+fJ zs i<=zs.length:=by
 unfold fJ;split
 ·have h1:=KL.Ci zs (i+1);have h2:=KL.LH (zs:=zs) (j:=i+1) (by omega);omega
 ·unfold KL.ni;split
  ·rename_i h
   rw[Bool.and_eq_true,Bool.and_eq_true,decide_eq_true_eq]at h;omega
  ·omega
theorem Dw {zs:List Int}{i:Nat}(hi:i<zs.length):(KL.kF zs i (i+fJ zs i)).length=fJ zs i/\(KL.kF zs i (i+fJ zs i)).getD 0 0=zs.getD i 0:=by
 obtain⟨h1,h2⟩:=DK hi;exact⟨by rw[KL.lI h2];omega,by rw[KL.rU h2 (by omega)];rfl⟩
theorem NT {zs:List Int}{i:Nat}(hi:i<zs.length) (hb:KL.Jr (zs.getD i 0)=false):KL.lS zs i=(qp (KL.kF zs i (i+fJ zs i))).map fun t=>([(t.1,(i:Int),t.2.1,t.2.2)],i+fJ zs i):=by
 obtain⟨h1,h2⟩:=DK hi;obtain⟨c1,c2⟩:=Dw hi;unfold KL.lS;rw[hb,if_neg (by decide)]
 cases hs:KL.qW zs i with
 | true =>
  have hsz:i+fJ zs i=KL.jY zs (i+1):=by
   have:=KL.Ci zs (i+1);unfold fJ;rw[hs,if_pos rfl];omega
  rw[if_pos rfl,<- hsz,<- KR (p:=KL.kF zs i (i+fJ zs i)) i ?_,Option.map_map]
  ·rfl
  ·rw[c1,c2];unfold KL.qW at hs;rw[Bool.or_eq_true]at hs;rcases hs with h|h
   ·exact .inl h
   ·rw[Bool.and_eq_true,Bool.and_eq_true,beq_iff_eq,decide_eq_true_eq]at h;refine .inr ⟨h.1.1,fun e=>?_⟩
    -- the piece goes on over the digit
    have hin:inner (zs.getD (i+1) 0)=true:=by unfold inner;rw[h.2,Bool.or_true]
    have hP:=(KL.Piece.start zs (i+1)).next h.1.2 hin
    obtain⟨f,_,e2⟩:=hP;have:=(KL.xQ zs f (i+1+1)).1;rw[e2]at this;omega
 | false =>
  rw[if_neg (by decide)]
  have hsz:i+fJ zs i=KL.ni zs i:=by
   have:i+1<=KL.ni zs i:=by unfold KL.ni;split <;> omega
   unfold fJ;rw[hs,if_neg (by decide)];omega
  have hin:inner (zs.getD i 0)=false:=by
   unfold KL.qW at hs;rw[Bool.or_eq_false_iff]at hs;exact hs.1
  rw[<-hsz,NQ (p:=KL.kF zs i (i+fJ zs i)) hin ?_]
  ·by_cases hg:sign (zs.getD i 0)=true
   ·rw[if_pos hg,if_pos hg];rfl
   ·rw[if_neg hg,if_neg hg];rfl
  ·rw[hsz]at c1 c2 ⊢;unfold KL.ni at *;by_cases hc:((zs.getD i 0==61)&&decide (i+1<zs.length)&&(zs.getD (i+1) 0==61))=true
   ·rw[if_pos hc]at *;rw[Bool.and_eq_true,Bool.and_eq_true,beq_iff_eq,beq_iff_eq,decide_eq_true_eq]at hc
    right
    refine⟨?_,hc.1.1⟩;have g0:=KL.rU (zs:=zs) (i:=i) (j:=i+2) (m:=0) (by omega) (by omega);have g1:=KL.rU (zs:=zs) (i:=i) (j:=i+2) (m:=1) (by omega) (by omega);have gl:=KL.lI (zs:=zs) (i:=i) (j:=i+2) (by omega)
    generalize KL.kF zs i (i+2)=p at *
    match p,gl with
    | [a,b],_ =>
     have ga:a=zs.getD i 0:=g0;have gb:b=zs.getD (i+1) 0:=g1;rw[ga,gb,hc.1.1,hc.2]
    | [],gl=>exact absurd gl (by rw[List.length_nil];omega)
    | [a],gl=>exact absurd gl (by rw[List.length_cons,List.length_nil];omega)
    | a::b::c::r,gl=>exact absurd gl (by rw[List.length_cons,List.length_cons,List.length_cons];omega)
   ·rw[if_neg hc]at *
    left
    have gl:=KL.lI (zs:=zs) (i:=i) (j:=i+1) (by omega)
    generalize KL.kF zs i (i+1)=p at *
    match p,gl with
    | [a],_ =>
     have ga:a=zs.getD i 0:=c2;rw[ga]
    | [],gl=>exact absurd gl (by rw[List.length_nil];omega)
    | a::b::r,gl=>exact absurd gl (by rw[List.length_cons,List.length_cons];omega)
end Go.Proofs.YtgaddpkkjebekaaGreatDoor
namespace Go.Proofs.YtgaddpkkjebekaaGreatDoor.KL
open Go.RowKit
def wU (p:Tok × Value):Lay:=((match p.2.ownBlock with|some g=>g|none=>0),0,p.1.2.2.2.length)
structure oh (base:Nat) (w:World) (v:Value) (ps:List (Tok × Value)):Prop where
 row:w.ownsRow base 45 4 v ps.length (pY ps)
 text:∀ p∈ps,xB base w p.2 p.1.2.2.2/\(∀ j,isB (p.1.2.2.2.getD j 0))/\p.1.2.2.2.length<=6000
 emp:ps=[]->v=.slice none 0 0
 apart:ps.Pairwise fun a b=>0<a.1.2.2.2.length->0<b.1.2.2.2.length->∀ g,a.2.ownBlock=some g->b.2.ownBlock≠some g
theorem oh.nil (base:Nat) (w:World):oh base w (.slice none 0 0) []:=⟨World.ownsRow_nil _ _ _ _,(fun p hp=>by cases hp),fun _=>rfl,List.Pairwise.nil⟩
theorem vV {base:Nat}{w w':World}{v:Value}{t:List Int}(h:xB base w v t) (hk:∀ g,v.ownBlock=some g->0<t.length->g<w.heap.size->w'.heap[g]?=w.heap[g]?):xB base w' v t:=by
 rcases h with h|⟨g,cap,rfl,hb,hk',hc⟩
 ·exact .inl h
 ·refine .inr ⟨g,cap,rfl,hb,hk',fun j hj=>?_⟩;obtain⟨c1,c2⟩:=hc j hj;have hbk:=hk g rfl (by omega) (lt_of_cell c1);exact⟨(World.cell?_of_block (w:=w) (w':=w') (a:=⟨g,j,none⟩) hbk).trans c1,(World.frozen?_of_block (w:=w) (w':=w') (a:=⟨g,j,none⟩) hbk).trans c2⟩
theorem NL {b1 b2:Nat}{w:World}{v:Value}{t:List Int}(h:xB b1 w v t) (hb:b2<=b1):xB b2 w v t:=by
 rcases h with h|⟨g,cap,e,h1,hk,hc⟩
 ·exact .inl h
 ·exact .inr ⟨g,cap,e,by omega,hk,hc⟩
theorem oh.later {base:Nat}{w w':World}{v:Value}{ps:List (Tok × Value)}(h:oh base w v ps) (hl:Later w w'):oh base w' v ps :=
 ⟨h.row.kept (row:=none) ⟨hl.os,hl.tape,hl.output,hl.size,fun k hk _=>hl.block k hk⟩ (by cases hv:v.ownBlock <;> simp),fun p hp=>⟨vV (h.text p hp).1 (fun g _ _ hg=>hl.block g hg),(h.text p hp).2⟩,h.emp,h.apart⟩
theorem NM {w:World}{base:Nat}{v:Value}{zs:List Int}(h:xB base w v zs):∃ ta tc,v=.slice ta zs.length tc/\(0<zs.length->∃ g,v.ownBlock=some g/\ta=some ⟨g,0,none⟩):=by
 rcases h with ⟨rfl,rfl⟩|⟨g,cap,rfl,_⟩
 ·exact⟨none,0,rfl,fun hn=>absurd hn (Nat.lt_irrefl _)⟩
 ·exact⟨_,_,rfl,fun _=>⟨g,rfl,rfl⟩⟩
theorem zI {w:World}{base:Nat}{p:Tok × Value}(h:xB base w p.2 p.1.2.2.2) {i:Nat}(hi:i<p.1.2.2.2.length):w.cell? ⟨(wU p).1,(wU p).2.1+i,none⟩=some (.int .u8 (p.1.2.2.2.getD i 0))/\w.frozen? ⟨(wU p).1,(wU p).2.1+i,none⟩=false/\base<=(wU p).1/\p.2.ownBlock=some (wU p).1:=by
 obtain⟨t,v⟩:=p;rcases h with ⟨h0,_⟩|⟨g,cap,hv,hb,_,hc⟩
 ·simp only at h0 hi;rw[h0]at hi;exact absurd hi (Nat.not_lt_zero _)
 ·simp only at hv hi hc ⊢;subst hv;have e:(wU (t,Value.slice (some ⟨g,0,none⟩) t.2.2.2.length cap)).1=g:=rfl;have e2:(wU (t,Value.slice (some ⟨g,0,none⟩) t.2.2.2.length cap)).2.1=0:=rfl;rw[e,e2,Nat.zero_add];exact⟨(hc i hi).1,(hc i hi).2,hb,rfl⟩
theorem Ls {base:Nat}{w:World}{v:Value}{ps:List (Tok × Value)}(h:w.ownsRow base 45 4 v ps.length (pY ps)) (h0:0<ps.length) {g:Nat}(hg:v.ownBlock=some g):∃ n,w.cell? ⟨g,0,none⟩=some (.int .i64 n):=by
 rcases h.2 with ⟨rfl,e⟩|⟨g',cap,cur,rfl,_⟩
 ·cases hg
 ·cases hg
  obtain⟨c0,_⟩:=yg ps 0 h0;rw[<-h.cellAt (0*4) (by omega)]at c0;exact⟨_,c0⟩
theorem oh.lts {base:Nat}{w:World}{v:Value}{ps:List (Tok × Value)}(h:oh base w v ps):(∀ g,v.ownBlock=some g->g<w.heap.size)/\∀ p∈ps,0<p.1.2.2.2.length->∀ g,p.2.ownBlock=some g->g<w.heap.size:=by
 refine⟨fun g hg=>(h.row.lt g hg).2,fun p hp hn g hg=>?_⟩;obtain⟨q1,_,_,q2⟩:=zI (h.text p hp).1 hn;rw[q2]at hg
 cases hg
 exact lt_of_cell q1
theorem oh.push {base N:Nat}{w w':World}{v v':Value}{ps:List (Tok × Value)}(h:oh base w v ps) (t:Tok) (tv:Value) (ht:xB N w tv t.2.2.2) (hN:base<=N) (hvN:∀ g,v.ownBlock=some g->g<N) (hpN:∀ p∈ps,0<p.1.2.2.2.length->∀ g,p.2.ownBlock=some g->g<N) (hb:∀ j,isB (t.2.2.2.getD j 0)) (hl:t.2.2.2.length<=6000)
  (ho:w'.ownsRow base 45 4 v' (ps.length+1) (pY ps++[.int .i64 t.1,.int .i64 t.2.1,.int .i64 t.2.2.1,tv])) (hg:w.grownBy w' v.ownBlock):oh base w' v' (ps++[(t,tv)]):=by
 have hnew:∀ g,tv.ownBlock=some g->0<t.2.2.2.length->N<=g:=fun g hq hn=>by
  have:=zI (p:=(t,tv)) ht hn;have h2:=this.2.2.2;simp only at h2;rw[hq]at h2
  cases h2
  exact this.2.2.1
 refine⟨?_,fun p hp=>?_,fun e=>by simp at e,?_⟩
 ·rw[Ej,List.length_append];exact ho
 ·rcases List.mem_append.1 hp with hp|hp
  ·refine⟨vV (h.text p hp).1 (fun g hq hn hlt=>hg.block g hlt (fun e=>?_)),(h.text p hp).2⟩;obtain⟨n,q0⟩:=Ls h.row (List.length_pos_of_mem hp) e.symm;obtain⟨q1,_,_,q2⟩:=zI (h.text p hp).1 hn;rw[q2]at hq
   cases hq
   have el:(wU p).2.1+0=0:=rfl;rw[el,q0]at q1
   cases q1
  ·rw[List.mem_singleton.1 hp];refine⟨vV (NL ht hN) (fun g hq hn hlt=>hg.block g hlt (fun e=>?_)),hb,hl⟩;have h1:=hnew g hq hn;have h2:=hvN g e.symm;omega
 ·rw[List.pairwise_append];refine⟨h.apart,List.pairwise_singleton _ _,fun a ha b hb' h1 h2 g hg' e=>?_⟩;rw[List.mem_singleton.1 hb']at h2 e;have q1:=hpN a ha h1 g hg';have q2:=hnew g e h2;omega
theorem Tryz.U1:(Tryz.prog.info? 45).map (fun i=>(i.zero,i.size,i.bytes))=some (some (.agg #[.int .i64 0,.int .i64 0,.int .i64 0,.slice none 0 0]),4,48):=by kernel_rfl
theorem Sm (w:World) (a b c d:Value):∀ j u,[a,b,c,d][j]?=some u->(w.alloc (.cells #[a,b,c,d] 45)).cell? ((⟨w.heap.size,0,none⟩:Addr).add j)=some u:=by
 intro j u h;rw[Addr.add_lit,Nat.zero_add]
 match j with
 | 0=>rw[<-h];simp
 | 1=>rw[<-h];simp
 | 2=>rw[<-h];simp
 | 3=>rw[<-h];simp
 | j+4=>simp at h
theorem OL {w:World}{b n sz:Nat}{t:TypeId}{v:Value}{xs:List Value}(h:w.ownsRow b t sz v n xs):∃ a c,v=.slice a n c:=by
 rcases h.2 with ⟨rfl,h0⟩|⟨g,c,_,rfl,_⟩
 ·exact⟨none,0,by rw[h0]⟩
 ·exact⟨_,_,rfl⟩
end Go.Proofs.YtgaddpkkjebekaaGreatDoor.KL
namespace Go.Proofs.YtgaddpkkjebekaaGreatDoor
open Go.RowKit Go.Lib
theorem KT {p:List Int}{k n:Int}{t:List Int}(h:qp p=some (k,n,t)):t=[]\/t=p:=by
 unfold qp at h;split at h
 ·cases h;exact .inl rfl
 ·split at h
  ·cases h;exact .inl rfl
  ·split at h
   ·cases h;exact .inr rfl
   ·split at h
    ·cases h;exact .inr rfl
    ·cases h
theorem Ro {w:World}{zs:List Int}{g off n cap c:Nat}(h:RdB w (.slice (some ⟨g,off,none⟩) n cap) zs) (i j:Nat) (hij:i<=j) (hj:j<=zs.length):RdB w (.slice (some ⟨g,off+i,none⟩) (j - i) c) (KL.kF zs i j):=by
 obtain⟨a,c',e,hl,hb,hc⟩:=h
 cases e
 refine⟨_,c,by rw[KL.lI hj],by rw[KL.lI hj];omega,KL.GI hb hj,fun m hm=>?_⟩;rw[KL.lI hj]at hm;obtain⟨g',off',e',h1,h2⟩:=hc (i+m) (by omega)
 cases e'
 exact⟨g,off+i,rfl,h1,by rw[KL.rU hj hm,Nat.add_assoc];exact h2⟩
theorem MX (a:Option Addr) (cap:Nat) (zs:List Int) (w:World) (hr:RdB w (.slice a zs.length cap) zs) (hl:zs.length<=1048576) (hcap:zs.length<=cap) (hmx:cap<=maxLen) (hE:vN w) (Q:Ending->World->Prop) (HQ2:Hid (∀ tv i ps w',KL.xY zs=(ps.map (·.1),i)->KL.oh w.heap.size w' tv ps->ps.length<=6000->Later w w'->Q (.returned (.tuple #[tv,.int .i64 i])) w')) :
  Calls Tryz.prog 7 #[.slice a zs.length cap] w Q:=by
 obtain⟨iT,hiT,hzT0,hzT1,hzT2⟩:=info_parts KL.Tryz.U1;obtain⟨L,hL⟩:=dJ zs.length;rw[<-hL.out];by_cases hbig:6000<L
 ·have HA:=HQ2.out (.slice none 0 0) 0 [] w (by unfold KL.xY;rw[if_pos (by rw[<-hL.out];simpa using hbig)];rfl) (KL.oh.nil _ _) (Nat.zero_le _) (Later.refl _);have hb2:(6000:Int)<(L:Int):=by omega
  clear HQ2 hr hE;go_enter Tryz.func7,Tryz.ntmps7;go_wp2_with fail
  exact HA
 ·have hb2:¬ (6000:Int)<(L:Int):=by omega
  have HD:Hid (KL.xY zs=KL.qy zs zs.length 0 []):=by unfold Hid KL.xY;rw[if_neg (by rw[<-hL.out];simpa using hbig)]
  have hr':Hid (RdB w (.slice a zs.length cap) zs):=hr;have hE':Hid (vN w):=hE;clear hr hE;go_enter Tryz.func7,Tryz.ntmps7;go_wp2_with fail
  go_loopw [4,5] (fun tv at_ wr=>∃ (k:Nat) (ps:List (KL.Tok × Value)),at_=.int .i64 (k:Int)/\k<=L/\Hid (KL.oh w.heap.size wr tv ps)/\Hid (KL.mG zs k (ps.map (·.1)))/\Later w wr/\ps.length<=k) (fun _ i _=>L - (RowKit.intOf i).toNat)
  case atStart=>exact⟨0,[],rfl,Nat.zero_le _,KL.oh.nil _ _,KL.mG.start zs,Later.refl _,Nat.le_refl _⟩
  case round =>
   obtain⟨k,ps,rfl,hk,hO,hS,lw,hps⟩:=hrel;by_cases hlt:k<L
   ·have hkz:k<zs.length:=by have:=hL.out;omega
    have ik:(k:Int)<(L:Int):=by omega
    obtain⟨aa,cc,ee,hll,hz,hc⟩:=hr'.out.later lw
    cases ee
    obtain⟨g,off,rfl,hg0,c0⟩:=hc k hkz;obtain⟨z,hzz⟩:=dJ (zs.getD k 0);rw[<-hzz.out]at c0;rcases (by omega:z=32\/z=10\/(¬ z=32/\¬ z=10)) with hb|hb|⟨hb,hb'⟩
    ·have hS2:Hid (KL.mG zs (k+1) (ps.map (·.1))):=by
      have:=hS.out.next hkz (t:=[]) (j:=k+1) (by unfold KL.lS;rw[if_pos (by rw[<-hzz.out,hb];rfl)]) (by omega)
      rw[List.append_nil]at this;exact this
     subst hb;clear hS HQ2 hc hz;go_wp2_with fail
     go_roundw
     case rel=>exact⟨k+1,ps,by go_num,by omega,hO,hS2,lw,by omega⟩
     case measure=>simp[RowKit.intOf];omega
    ·have hS2:Hid (KL.mG zs (k+1) (ps.map (·.1))):=by
      have:=hS.out.next hkz (t:=[]) (j:=k+1) (by unfold KL.lS;rw[if_pos (by rw[<-hzz.out,hb];rfl)]) (by omega)
      rw[List.append_nil]at this;exact this
     subst hb;clear hS HQ2 hc hz;go_wp2_with fail
     go_roundw
     case rel=>exact⟨k+1,ps,by go_num,by omega,hO,hS2,lw,by omega⟩
     case measure=>simp[RowKit.intOf];omega
    ·have hstep:Hid (KL.lS zs k=(qp (KL.kF zs k (k+fJ zs k))).map fun t=>([(t.1,(k:Int),t.2.1,t.2.2)],k+fJ zs k)):=NT hkz (by unfold KL.Jr;rw[<-hzz.out];simp[hb,hb']);obtain⟨hs1,hs2⟩:=DK hkz;have hcl:=(Dw hkz).1;have hrw:=hr'.out.later lw
     have hRd:RdN wr (.slice (some ⟨g,off+k,none⟩) (L - k) (cap - k)) (zs.drop k):=⟨by have:=hrw.drop (c:=cap - k) k (by omega);rw[<-hL.out]at this;exact this,_,_,by rw[List.length_drop,<- hL.out],by rw[List.length_drop];omega,by omega⟩
     have hTS:=KQ zs k hkz _ wr hRd;obtain⟨P,hP⟩:=dJ (KL.kF zs k (k+fJ zs k));obtain⟨s,hs⟩:=dJ (fJ zs k);have hPb:∀ j,isB ((KL.kF zs k (k+fJ zs k)).getD j 0):=KL.GI hz hs2
     have hcut:Hid (∀ w',Later wr w'->RdB w' (.slice (some ⟨g,off+k,none⟩) (fJ zs k) (cap - k)) (KL.kF zs k (k+fJ zs k))):=fun w' l=>by
      have:=Ro (c:=cap - k) (hrw.later l) k (k+fJ zs k) (by omega) hs2;rw[show k+fJ zs k - k=fJ zs k by omega]at this;exact this
     rw[<-hP.out]at hPb hcut hcl hstep;rw[<-hs.out]at hcut hcl hs1 hs2 hstep hTS;have hks:(k:Int)+(s:Int)<=(cap:Int):=by omega
     have hb1:(z==32)=false:=beq_eq_false_iff_ne.2 hb;have hb2:(z==10)=false:=beq_eq_false_iff_ne.2 hb';have hPl:P.length<=6000:=by have:=hL.out;omega
     have hsL:k+s<=L:=by rw[hL.out];exact hs2
     have hlts:=hO.out;clear hc hz hRd hrw hr';go_wp2_with fail
     refine hTS.mono ?_;rintro e w1 ⟨rfl,l1⟩;have hcv:=eH (hcut.out w1 l1);have hT:=Rh P hPb hPl w1 (hE'.out.later (lw.trans l1));have hO1:Hid (KL.oh w.heap.size w1 u4 ps):=hO.out.later l1;have lw1:=lw.trans l1
     generalize strOfNums P=SP at *
     have HB:Hid (qp P=none->∀ w',Later w w'->Q (.returned (.tuple #[.slice none 0 0,.int .i64 (k:Int)])) w'):=fun hno w' l=>HQ2.out _ _ [] w' (by
      rw[HD.out]
      exact hS.out.bad hkz (by rw[hstep.out,hno];rfl)) (KL.oh.nil _ _) (Nat.zero_le _) l
     clear hTS hcut hO hlts HQ2 HD;go_wp2_with fail
     refine hT.mono ?_;rintro e w2 ⟨tv,b,rfl,l2,hf,ht⟩;clear hT hcv;have lw2:=lw1.trans l2
     cases b with
     | false =>
      obtain⟨hno,rfl⟩:=hf rfl;have HC:Hid (∀ w',Later w w'->Q (.returned (.tuple #[.slice none 0 0,.int .i64 (k:Int)])) w'):=HB.out hno;clear HB hf ht hS hstep hO1;go_wp2_with fail
      exact HC.out _ (lw2.trans (ae _ _))
     | true =>
      obtain⟨kd,n,t,xv,htok,rfl,htx⟩:=ht rfl;have hO2:Hid (KL.oh w.heap.size w2 u4 ps):=hO1.out.later l2;have hlts:Hid ((∀ g,u4.ownBlock=some g->g<w1.heap.size)/\∀ p∈ps,0<p.1.2.2.2.length->∀ g,p.2.ownBlock=some g->g<w1.heap.size):=hO1.out.lts;obtain⟨ta,tc,hxv,_⟩:=KL.NM htx;obtain⟨T,hTl⟩:=dJ t.length;rw[<-hTl.out]at hxv;subst hxv;have htx':Hid _:=htx
      have HS2:Hid (KL.mG zs (k+s) ((ps++[((kd,(k:Int),n,t),Value.slice ta T tc)]).map (·.1))):=by
       have:=hS.out.next hkz (t:=[(kd,(k:Int),n,t)]) (j:=k+s) (by rw[hstep.out,htok];rfl) (by omega)
       rw[List.map_append];exact this
      have htb:Hid ((∀ j,isB (t.getD j 0))/\t.length<=6000):=by
       rcases KT htok with rfl|rfl
       ·exact⟨fun j=>⟨by show (0:Int)<=0;decide,by show (0:Int)<=255;decide⟩,by decide⟩
       ·exact⟨hPb,hPl⟩
      have l24:Later w2 ((w2.alloc (.cells #[.int .i64 kd,.int .i64 (k:Int),.int .i64 n,.slice ta T tc] 45)).alloc (.cells #[.int .i64 kd,.int .i64 (k:Int),.int .i64 n,.slice ta T tc] 45)):=(ae _ _).trans (ae _ _);have hO4:=hO2.out.later l24;have hr4:=hO4.row;have hO4':Hid _:=hO4;have hs4:w.heap.size<=_:=(lw2.trans l24).size;have lw4:=lw2.trans l24;have htx4:Hid (xB w1.heap.size _ (.slice ta T tc) t):=KL.vV htx'.out (fun g _ _ hg=>l24.block g hg);have hsz1:Hid (w.heap.size<=w1.heap.size):=lw1.size;clear HB hf ht htx hO4 hstep hS htok hPb hPl hO1 hO2 l24;go_wp2_with (at_builtin;refine wpList_append_own _ rfl _ _ 33 rfl w.heap.size 45 iT (.agg #[.int .i64 0,.int .i64 0,.int .i64 0,.slice none 0 0]) 4 48 Tryz.underlying33 hiT hzT0 hzT1 hzT2 rfl (by decide) _ _ _ rfl hr4 ⟨w2.heap.size+1,0,none⟩ 1 1 [.int .i64 kd,.int .i64 (k:Int),.int .i64 n,.slice ta T tc] rfl rfl (by simpa using KL.Sm (w2.alloc (.cells #[.int .i64 kd,.int .i64 (k:Int),.int .i64 n,.slice ta T tc] 45)) (.int .i64 kd) (.int .i64 (k:Int)) (.int .i64 n) (.slice ta T tc)) (by simp[Value.oneCell']) (by unfold maxLen;omega) (by omega) hs4 ?_;intro v7 w7 o7 g7 _;obtain⟨a7,p7,hv7⟩:=KL.OL o7;rw[hv7])
      have hO7:Hid (KL.oh w.heap.size w7 v7 (ps++[((kd,(k:Int),n,t),Value.slice ta T tc)])):=KL.oh.push hO4'.out (kd,(k:Int),n,t) (.slice ta T tc) htx4.out hsz1.out hlts.out.1 hlts.out.2 htb.out.1 htb.out.2 o7 g7;have l7:Later w w7:=Below.grown lw4 (row:=u4.ownBlock) g7 hs4 (fun j hj=>(hr4.lt j hj).1);rw[hv7]at hO7;clear o7 g7 hr4 htx4 hlts hO4' hs4 lw4;go_wp2_with fail
      go_roundw
      case rel=>exact⟨k+s,_,by go_num,hsL,hO7,HS2,l7,by rw[List.length_append];simp;omega⟩
      case measure=>simp[RowKit.intOf];omega
   ·have hk2:k=L:=by omega
    have ik:¬ (k:Int)<(L:Int):=by omega
    have HA:=HQ2.out _ (-1) ps wr (by rw[HD.out];exact hS.out.done (by have:=hL.out;omega)) hO.out (by omega) lw;clear HQ2 hS HD;go_wp2_with fail
    exact HA
end Go.Proofs.YtgaddpkkjebekaaGreatDoor
