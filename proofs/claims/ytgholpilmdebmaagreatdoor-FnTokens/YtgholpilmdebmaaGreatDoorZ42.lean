import Derived.Test.YtgholpilmdebmaaGreatDoorZ29
import Derived.Test.YtgholpilmdebmaaGreatDoorZ30
import Derived.Test.YtgholpilmdebmaaGreatDoorZ41
set_option maxHeartbeats 100000000
set_option maxRecDepth 100000
namespace Go.Proofs.YtgholpilmdebmaaGreatDoor
open Go.RowKit Go.Maps
def inB':Code→Code
 | .block _ c=>c
 | c=>c
def inL':Code→Code
 | .loop c=>c
 | c=>c
theorem Later.drewN' (w:World) (n:Nat):Later w (w.drewN n):=⟨rfl,rfl,rfl,Nat.le_refl _,fun _ _=>rfl⟩
theorem fr_at' {R:Act→World→Prop}{T':List Value}{D:List Deferred}{w:World}{f:(Nat→Value)→List Value}(h:∀ us,R { tmps:=(f us).toArray,defers:=D } w) (e:T'=f (fun i=>T'.getD i undef)):R { tmps:=T'.toArray,defers:=D } w:=by
 rw[e];exact h _
noncomputable def lawT:Code:=rt (rt (rt (rt (rt (rt (Tryz.f3.body.getD .skip))))))
noncomputable def lawB:Code:=inB' (lt (rt (inL' (inB' (rt (lt (rt lawT)))))))
theorem law_B2 {w:World}{b o n5 c5 g N cap k:Nat}{kind y:Int}{p tn tc:Nat}{ta:Option Addr}(us:Nat→Value) (hk:k<N) (hp:p<n5) (c0:w.cell? ⟨g,k*4,none⟩=some (.int .i64 kind)) (c1:w.cell? ⟨g,k*4+1,none⟩=some (.int .i64 (p:Int))) (c3:w.cell? ⟨g,k*4+3,none⟩=some (.slice ta tn tc)) (cp:w.cell? ⟨b,o+p,none⟩=some (.int .u8 y)) (ht:kind=1∨kind=4→∃ tb,ta=some ⟨tb,0,none⟩∧0<tn∧w.cell? ⟨tb,0,none⟩=some (.int .u8 y)) (Q:Exit→Act→World→Prop) (HN:∀ us w2,Later w w2→Q .normal { tmps:=([us 0,us 1,us 2,us 3,us 4,.slice (some ⟨b,o,none⟩) n5 c5,.slice (some ⟨g,0,none⟩) N cap,us 7,.int .i64 (k:Int)]++tl us 9 112).toArray,defers:=[] } w2):Code.wp Tryz.prog (rt lawB) Q { tmps:=([us 0,us 1,us 2,us 3,us 4,.slice (some ⟨b,o,none⟩) n5 c5,.slice (some ⟨g,0,none⟩) N cap,us 7,.int .i64 (k:Int)]++tl us 9 112).toArray,defers:=[] } w:=by
 have HN':Hid (∀ us nq,Q .normal { tmps:=([us 0,us 1,us 2,us 3,us 4,.slice (some ⟨b,o,none⟩) n5 c5,.slice (some ⟨g,0,none⟩) N cap,us 7,.int .i64 (k:Int)]++tl us 9 112).toArray,defers:=[] } (w.drewN nq)):=fun us nq=>HN us _ (Later.drewN' w nq);clear HN;show Code.wp _ (Code.seq _ _) _ _ _
 apply wp_seq_k
 intro K1 hK1;have HK1:Hid _:=hK1;clear hK1;dsimp only [List.cons_append,List.nil_append,tl,Nat.reduceAdd];by_cases h1:kind=1
 ·subst h1;obtain⟨tb,rfl,htn,ct⟩:=ht (.inl rfl);go_quiet (fail)
  show Exit.then K1 _ .normal _ _
  refine HK1.out _ _ ?_;refine wp_cond_false rfl (wp_skip ?_);exact fr_at' (R:=Q .normal) (f:=fun us=>([us 0,us 1,us 2,us 3,us 4,.slice (some ⟨b,o,none⟩) n5 c5,.slice (some ⟨g,0,none⟩) N cap,us 7,.int .i64 (k:Int)]++tl us 9 112)) (fun us=>HN'.out us _) rfl
 ·have j1:(kind==1)=false:=by simpa using h1
  by_cases h4:kind=4
  ·subst h4;obtain⟨tb,rfl,htn,ct⟩:=ht (.inr rfl);go_quiet (fail)
   show Exit.then K1 _ .normal _ _
   refine HK1.out _ _ ?_;refine wp_cond_false rfl (wp_skip ?_);exact fr_at' (R:=Q .normal) (f:=fun us=>([us 0,us 1,us 2,us 3,us 4,.slice (some ⟨b,o,none⟩) n5 c5,.slice (some ⟨g,0,none⟩) N cap,us 7,.int .i64 (k:Int)]++tl us 9 112)) (fun us=>HN'.out us _) rfl
  ·have j4:(kind==4)=false:=by simpa using h4
   clear ht;go_quiet (fail)
   show Exit.then K1 _ .normal _ _
   refine HK1.out _ _ ?_;refine wp_cond_false rfl (wp_skip ?_);exact fr_at' (R:=Q .normal) (f:=fun us=>([us 0,us 1,us 2,us 3,us 4,.slice (some ⟨b,o,none⟩) n5 c5,.slice (some ⟨g,0,none⟩) N cap,us 7,.int .i64 (k:Int)]++tl us 9 112)) (fun us=>HN'.out us _) rfl
theorem law_B {w:World}{b o n5 c5 g N cap k:Nat}{kind y:Int}{p tn tc:Nat}{ta:Option Addr}(us:Nat→Value) (hk:k<N) (hp:p<n5) (c0:w.cell? ⟨g,k*4,none⟩=some (.int .i64 kind)) (c1:w.cell? ⟨g,k*4+1,none⟩=some (.int .i64 (p:Int))) (c3:w.cell? ⟨g,k*4+3,none⟩=some (.slice ta tn tc)) (cp:w.cell? ⟨b,o+p,none⟩=some (.int .u8 y)) (hprev:k=0∨∃ q:Int,w.cell? ⟨g,(k - 1)*4+1,none⟩=some (.int .i64 q)∧q<(p:Int)) (ht:kind=1∨kind=4→∃ tb,ta=some ⟨tb,0,none⟩∧0<tn∧w.cell? ⟨tb,0,none⟩=some (.int .u8 y)) (hN:N≤6000) (Q:Exit→Act→World→Prop) (HN:∀ us w2,Later w w2→Q .normal { tmps:=([us 0,us 1,us 2,us 3,us 4,.slice (some ⟨b,o,none⟩) n5 c5,.slice (some ⟨g,0,none⟩) N cap,us 7,.int .i64 (k:Int)]++tl us 9 112).toArray,defers:=[] } w2):Code.wp Tryz.prog lawB Q { tmps:=([us 0,us 1,us 2,us 3,us 4,.slice (some ⟨b,o,none⟩) n5 c5,.slice (some ⟨g,0,none⟩) N cap,us 7,.int .i64 (k:Int)]++tl us 9 112).toArray,defers:=[] } w:=by
 have HB:Hid (∀ us nq,Code.wp Tryz.prog (rt lawB) Q { tmps:=([us 0,us 1,us 2,us 3,us 4,.slice (some ⟨b,o,none⟩) n5 c5,.slice (some ⟨g,0,none⟩) N cap,us 7,.int .i64 (k:Int)]++tl us 9 112).toArray,defers:=[] } (w.drewN nq)):=fun us nq=>by
  have l:=Later.drewN' w nq
  exact law_B2 us hk hp (cell_later l c0) (cell_later l c1) (cell_later l c3) (cell_later l cp) (fun q=>by
   obtain⟨tb,e,h1,h2⟩:=ht q
   exact⟨tb,e,h1,cell_later l h2⟩) Q (fun us w2 l2=>HN us w2 (l.trans l2))
 clear HN ht c0 c3 cp;show Code.wp _ (Code.seq (Code.seq _ _) (Code.seq _ _)) _ _ _
 apply wp_seq_k
 intro K1 hK1;have HK1:Hid (∀ us nq,K1 { tmps:=([us 0,us 1,us 2,us 3,us 4,.slice (some ⟨b,o,none⟩) n5 c5,.slice (some ⟨g,0,none⟩) N cap,us 7,.int .i64 (k:Int)]++tl us 9 112).toArray,defers:=[] } (w.drewN nq)):=fun us nq=>hK1 _ _ (HB.out us nq);clear hK1 HB
 apply wp_seq_k
 intro K2 hK2;have HK2:Hid _:=hK2;clear hK2;dsimp only [List.cons_append,List.nil_append,tl,Nat.reduceAdd];have i1:¬ ((p:Int)<0):=by omega
 have i2:¬ ((n5:Int)≤(p:Int)):=by omega
 rcases hprev with rfl|⟨q,cq,hq⟩
 ·rw[Nat.zero_mul,Nat.zero_add]at c1;go_quiet (fail)
  show Exit.then K2 _ .normal _ _
  refine HK2.out _ _ ?_;refine wp_cond_false rfl (wp_skip ?_);exact fr_at' (R:=K1) (f:=fun us=>([us 0,us 1,us 2,us 3,us 4,.slice (some ⟨b,o,none⟩) n5 c5,.slice (some ⟨g,0,none⟩) N cap,us 7,.int .i64 ((0:Nat):Int)]++tl us 9 112)) (fun us=>HK1.out us _) rfl
 ·cases k with
  | zero =>
   rw[Nat.zero_mul,Nat.zero_add]at c1;go_quiet (fail)
   show Exit.then K2 _ .normal _ _
   refine HK2.out _ _ ?_;refine wp_cond_false rfl (wp_skip ?_);exact fr_at' (R:=K1) (f:=fun us=>([us 0,us 1,us 2,us 3,us 4,.slice (some ⟨b,o,none⟩) n5 c5,.slice (some ⟨g,0,none⟩) N cap,us 7,.int .i64 ((0:Nat):Int)]++tl us 9 112)) (fun us=>HK1.out us _) rfl
  | succ m =>
   rw[Nat.add_sub_cancel]at cq;have i3:¬ ((p:Int)≤q):=by omega
   have q1:IntKind.i64.wrap (((m+1:Nat):Int) - 1)=(m:Int):=by rw[IntKind.wrap_i64];omega
   have q2:IntKind.i64.wrap (m:Int)=(m:Int):=by rw[IntKind.wrap_i64];omega
   go_quiet (fail)
   show Exit.then K2 _ .normal _ _
   refine HK2.out _ _ ?_;refine wp_cond_false rfl (wp_skip ?_);exact fr_at' (R:=K1) (f:=fun us=>([us 0,us 1,us 2,us 3,us 4,.slice (some ⟨b,o,none⟩) n5 c5,.slice (some ⟨g,0,none⟩) N cap,us 7,.int .i64 ((m+1:Nat):Int)]++tl us 9 112)) (fun us=>HK1.out us _) rfl
theorem law_T {w:World}{zs:List Int}{a5:Option Addr}{c5:Nat}{va:Option Addr}{vc:Nat}{ps:List (KL.Tok × Value)}{i:Int}{base:Nat}(hrd:RdB w (.slice a5 zs.length c5) zs) (hO:KL.OutF base w (.slice va ps.length vc) ps) (hps:ps.length≤6000) (hlex:KL.lexL zs=(ps.map (·.1),i)) (Q:Ending→World→Prop) (HZ:∀ w',Later w w'→Q (.returned (.bool true)) w') (us:Nat→Value):Code.wp Tryz.prog lawT (bodyPost Tryz.prog Tryz.f3 Q) { tmps:=([us 0,us 1,us 2,us 3,us 4,.slice a5 zs.length c5,.slice va ps.length vc,.int .i64 i,us 8]++tl us 9 112).toArray,defers:=[] } w:=by
 have HZ':Hid _:=HZ;clear HZ;have hok:=lexL_ok zs;rw[hlex]at hok;show Code.wp _ (Code.seq (Code.seq _ _) (Code.seq (Code.seq _ _) (Code.seq _ _))) _ _ _
 apply wp_seq_k
 intro K1 hK1;rcases hok with ⟨hi,m,hx⟩|⟨j,hj,e⟩
 ·obtain rfl:i=-1:=hi;have HK1:Hid _:=hK1;clear hK1 hlex
  apply wp_seq_k
  intro K2 hK2;have HK2:Hid _:=hK2;clear hK2;dsimp only [List.cons_append,List.nil_append,tl,Nat.reduceAdd];go_wp2_with fail
  refine HK2.out _ _ ?_;clear HK2;refine wp_cond_false rfl (wp_skip ?_);refine HK1.out _ _ ?_;clear HK1;show Code.wp _ (Code.seq (Code.seq _ _) (Code.seq _ _)) _ _ _
  apply wp_seq_k
  intro K3 hK3
  have HE:Hid (∀ us (k:Nat) w',Later w w'→K3 { tmps:=([us 0,us 1,us 2,us 3,us 4,.slice a5 zs.length c5,.slice va ps.length vc,us 7,.int .i64 (k:Int)]++tl us 9 112).toArray,defers:=[] } w'):=fun us k w' l=>by
   refine hK3 _ _ ?_;have HF:=HZ'.out w' l;clear hK3 HZ';dsimp only [List.cons_append,List.nil_append,tl,Nat.reduceAdd];go_wp2_with fail
   exact HF
  clear hK3 HZ'
  apply wp_seq_k
  intro K4 hK4;have HK4:Hid _:=hK4;clear hK4;go_wp2_with fail
  refine HK4.out _ _ ?_;clear HK4;refine wp_block ?_;refine wp_loop (fun a' w'=>∃ (us:Nat→Value) (kz:Int),a'={ tmps:=([us 0,us 1,us 2,us 3,us 4,.slice a5 zs.length c5,.slice va ps.length vc,us 7,.int .i64 kz]++tl us 9 112).toArray,defers:=[] }∧0≤kz∧kz≤(ps.length:Int)∧Later w w') (fun a' _=>ps.length - (intOf (a'.tmps.getD 8 undef)).toNat) ?start ?round
  case start=>exact⟨updS (updS (updS us 38 (.int .i64 (-1))) 39 (.bool false)) 7 (.int .i64 (-1)),0,rfl,by decide,by omega,Later.refl _⟩
  case round =>
   rintro a' w' ⟨us,kz,rfl,hk0,hk1,l⟩
   obtain⟨k,rfl⟩:∃ k:Nat,kz=(k:Int):=⟨kz.toNat,by omega⟩
   show Code.wp _ (Code.seq (Code.seq _ _) _) _ _ _
   apply wp_seq_k
   intro K5 hK5;have HK5:Hid _:=hK5;clear hK5
   apply wp_seq_k
   intro K6 hK6;have HK6:Hid _:=hK6;clear hK6;dsimp only [List.cons_append,List.nil_append,tl,Nat.reduceAdd];by_cases hlt:(k:Int)<(ps.length:Int)
   ·have qk:IntKind.i64.wrap ((k:Int)+1)=(k:Int)+1:=by rw[IntKind.wrap_i64];omega
    have HB:Hid (∀ us (Qx:Exit→Act→World→Prop),(∀ us w2,Later w' w2→Qx .normal { tmps:=([us 0,us 1,us 2,us 3,us 4,.slice a5 zs.length c5,.slice va ps.length vc,us 7,.int .i64 (k:Int)]++tl us 9 112).toArray,defers:=[] } w2)→Code.wp Tryz.prog lawB Qx { tmps:=([us 0,us 1,us 2,us 3,us 4,.slice a5 zs.length c5,.slice va ps.length vc,us 7,.int .i64 (k:Int)]++tl us 9 112).toArray,defers:=[] } w'):=by
     intro us Qx hn;have hkN:k<ps.length:=by omega
     obtain⟨g,cap,ta,tc,ev,t0,t1,t3,tt⟩:=out_tok hO k hkN
     injection ev with e1 e2 e3
     subst e1 e3;have hmem:ps[k].1∈ps.map (·.1):=List.mem_map.2 ⟨ps[k],List.getElem_mem hkN,rfl⟩;obtain⟨⟨p,hp,hpl,hpt⟩,_⟩:=hx.tk _ hmem;obtain⟨a6,cap6,e6,_,_,hc6⟩:=hrd
     injection e6 with e6 _ e7
     subst e6 e7;obtain⟨gb,off,rfl,_,hcell⟩:=hc6 p hpl;rw[hp]at t1;refine law_B us (k:=k) (by omega) (by omega) (cell_later l t0) (cell_later l t1) (cell_later l t3) (cell_later l hcell) ?_ ?_ (by omega) Qx hn
     ·cases k with
      | zero=>exact .inl rfl
      | succ q =>
       obtain⟨g',cap',ta',tc',ev',_,t1',_,_⟩:=out_tok hO q (by omega)
       injection ev' with e1' _ _
       injection e1' with e1'
       injection e1' with e1' _ _
       subst e1';refine .inr ⟨_,by rw[Nat.add_sub_cancel];exact cell_later l t1',?_⟩;have hup:=List.pairwise_iff_getElem.1 hx.up q (q+1) (by simp;omega) (by simp;omega) (Nat.lt_succ_self _);simp only[List.getElem_map]at hup;rw[hp]at hup;exact hup
     ·intro hk;obtain⟨h1,h2⟩:=hpt hk;obtain⟨tb,e8,hcb⟩:=tt h1;exact⟨tb,e8,h1,by rw[h2]at hcb;exact cell_later l hcb⟩
    clear HE hx hO hrd;go_wp2_with fail
    refine HK6.out _ _ ?_;clear HK6;refine wp_cond_true rfl (wp_skip ?_);refine HK5.out _ _ ?_;clear HK5;show Code.wp _ (Code.seq _ _) _ _ _
    apply wp_seq_k
    intro K7 hK7;refine wp_block ?_;refine zbb (f:=fun us=>([us 0,us 1,us 2,us 3,us 4,.slice a5 zs.length c5,.slice va ps.length vc,us 7,.int .i64 (k:Int)]++tl us 9 112)) (fun us=>HB.out us _ ?_) rfl;intro us w2 l2;refine hK7 _ _ ?_;clear hK7 HB;have l3:=l.trans l2;dsimp only [List.cons_append,List.nil_append,tl,Nat.reduceAdd];go_wp2_with fail
    refine⟨⟨updS (updS us 53 (.int .i64 (k:Int))) 54 (.int .i64 ((k:Int)+1)),(k:Int)+1,rfl,by omega,by omega,l3⟩,?_⟩;show ps.length - (intOf (.int .i64 ((k:Int)+1))).toNat<ps.length - (intOf (.int .i64 (k:Int))).toNat;dsimp only [intOf];omega
   ·clear HK5 hx hO hrd;go_wp2_with fail
    refine HK6.out _ _ ?_;refine wp_cond_false rfl (wp_exit ?_);show K3 _ _;exact fr_at' (R:=K3) (f:=fun us=>([us 0,us 1,us 2,us 3,us 4,.slice a5 zs.length c5,.slice va ps.length vc,us 7,.int .i64 (k:Int)]++tl us 9 112)) (fun us=>HE.out us k w' l) rfl
 ·injection e with e1 e2
  obtain rfl:i=(j:Int):=e2;have hp0:ps=[]:=List.map_eq_nil_iff.1 e1;have hv:=hO.emp hp0;subst hp0
  injection hv with hv1 _ hv3
  subst hv1 hv3;have hjn:(j:Int)≤(zs.length:Int):=by omega
  have hj0:(0:Int)≤(j:Int):=by omega
  have HF:=HZ'.out w (Later.refl _);clear hK1 hlex hO hrd HZ'
  apply wp_seq_k
  intro K2 hK2;have HK2:Hid _:=hK2;clear hK2;dsimp only [List.cons_append,List.nil_append,tl,Nat.reduceAdd];go_wp2_with fail
  refine HK2.out _ _ ?_;clear HK2;refine wp_cond_true rfl ?_;go_wp2_with fail
  exact HF
end Go.Proofs.YtgholpilmdebmaaGreatDoor
