/- My texts T36, T37, T38, T39, T40, T41, T42, T42c in one. -/
import Derived.Test.YtmdejbphoafjlaaGreatDoorGp
import Derived.Laws.OwnMore
set_option maxHeartbeats 100000000
set_option maxRecDepth 100000
namespace Go.Proofs.YtmdejbphoafjlaaGreatDoor
open Go.RowKit Go.Lib
theorem dec_say (n:Int) (w:World) (hn:InR n):Calls Tryz.prog 162 #[.int .i64 n] w (SayP w w (decL n)):=by
 refine (dec_any n w hn).mono ?_
 rintro e w' ⟨v,rfl,o,l⟩
 exact⟨v,rfl,o,l,l.k8⟩
theorem decL_len (n:Int):1≤(decL n).length∧(decL n).length≤21:=by
 unfold decL
 have h1:=digF_len 20 (-n).toNat
 have h2:=digF_len 20 n.toNat
 have h3:0<(digF 20 n.toNat).length:=digF_pos 19 n.toNat
 split
 ·rw[List.length_cons];omega
 ·omega
theorem Bf.keep {X w w':World}{v2:Value}{ys:List Int}{vb:Option Nat}(h:Bf X X w v2 ys) (g:w.grownBy w' vb) (hlt:∀ b,vb=some b→b<X.heap.size):w'.ownsRow X.heap.size 5 1 v2 ys.length (ys.map (Value.int .u8)):=by
 refine h.1.kept g ?_
 cases hv:v2.ownBlock with
 | none=>exact .inl rfl
 | some b2 =>
  refine .inr fun e=>?_
  have h1:=(h.1.lt b2 hv).1
  have h2:=hlt b2 e.symm
  omega
theorem Later.ones {w w':World}{g:Nat}{X:List Value}(hl:Later w w') (hg:g<w.heap.size) (h:∀ j u,X[j]?=some u→w.cell? ((⟨g,0,none⟩:Addr).add j)=some u):∀ j u,X[j]?=some u→w'.cell? ((⟨g,0,none⟩:Addr).add j)=some u:=fun j u hj=>by
 have:=h j u hj
 rw[Addr.add_lit]at this ⊢
 rw[hl.cell (p:=⟨g,0+j,none⟩) hg]
 exact this
theorem say_0 (A W w:World) (v sv v0 v1:Value) (zs:List Int) (n tk tn:Int) (h:Bf A W w v zs) (hb:zs.length≤1000000) (hn:InR n) :
  Calls Tryz.prog 135 #[v,.agg #[.int .i64 0,.int .i64 n,.int .i64 tk,.int .i64 tn,v0,v1],sv] w (SayP A W (zs++32::decL n)):=by
 obtain⟨i0,hi,hz0,hz1,hz2⟩:=info_parts Tryz.info5
 obtain⟨a,cap,rfl⟩:=h.shape
 have hys:=decL_len n
 have HD:Hid (∀ w',Calls Tryz.prog 162 #[.int .i64 n] w' (SayP w' w' (decL n))):=fun w'=>dec_say n w' hn
 generalize decL n=ys at *
 obtain⟨w1,hw1⟩:∃ w1,Hid (w1=w.alloc (.cells #[.int .i64 0,.int .i64 n,.int .i64 tk,.int .i64 tn,v0,v1] 96)):=⟨_,rfl⟩
 have hA:Bf A W w1 (.slice a zs.length cap) zs:=by rw[hw1.out];exact h.alloc _
 have hbx:BxT w.heap.size w1 [.int .i64 0,.int .i64 n,.int .i64 tk,.int .i64 tn,v0,v1] 96:=by rw[hw1.out];exact BxT.new w _ _
 have HQ:Hid (∀ w',K8 w1 w'→w'.cell? ⟨w.heap.size,1,none⟩=some (.int .i64 n)):=fun w' k=>(hbx.k8 k (by decide)).cell 1 _ rfl
 have q1:=HQ.out w1.drew (Later.drew _).k8
 have q1':=HQ.out (w1.alloc (.cells #[.int .u8 32] 5)).drew ((later1 _ _).trans (Later.drew _)).k8
 have HF:Hid (∀ v' w',Bf w1 W w' v' (zs++[32]++ys)→SayP A W (zs++32::ys) (.returned v') w'):=fun v' w' h=>⟨v',rfl,by have h2:=h.back hA.3;rwa [List.append_assoc]at h2⟩
 have hB0:=hA.from.later (Later.drew _)
 have hB1:=(hA.from.alloc (.cells #[.int .u8 32] 5)).later (Later.drew _)
 have hS1:=Later.ones (Later.drew (w1.alloc (.cells #[.int .u8 32] 5))) (g:=w1.heap.size) (by simp) (new_oneb w1 32)
 have hlt0:∀ b,Value.ownBlock (.slice a zs.length cap)=some b→b<w1.drew.heap.size:=fun b hb=>(hB0.1.lt b hb).2
 have hlt1:∀ b,Value.ownBlock (.slice a zs.length cap)=some b→b<(w1.alloc (.cells #[.int .u8 32] 5)).drew.heap.size:=fun b hb=>(hB1.1.lt b hb).2
 have hsz:w1.heap.size<(w1.alloc (.cells #[.int .u8 32] 5)).drew.heap.size:=by show w1.heap.size<(w1.heap.push _).size;simp
 clear hbx hA h
 generalize hQ:SayP A W (zs++32::ys)=Q
 rw[hQ]at HF
 go_enter Tryz.func135,Tryz.ntmps135
 go_wp2_with fail
 rw[←hw1.out]
 go_region_law (first
  | (have _g:=hfin;(refine step_append_own2 rfl _ _ 41 rfl W.heap.size 5 i0 (.int .u8 0) 1 1 Tryz.underlying41 hi hz0 hz1 hz2 rfl (by decide) (.slice a3 M3 p3) _ _ rfl hfin.1 ⟨g4,0,none⟩ ys.length q4 (ys.map (Value.int .u8)) rfl (by rw[List.length_map,Nat.mul_one]) hcf (one_all ys) (by rw[hl3];unfold maxLen;omega) (by rw[hl3];omega) hfin.2.size ?_;intro v5 w5 o5 g5;have hbf5:=hfin.put o5 rfl rfl g5))
  | (refine step_append_own2 rfl _ _ 41 rfl W.heap.size 5 i0 (.int .u8 0) 1 1 Tryz.underlying41 hi hz0 hz1 hz2 rfl (by decide) (.slice a zs.length cap) _ _ rfl (hB1).1 ⟨_,0,none⟩ 1 1 [.int .u8 32] rfl rfl (hS1) (by simp[Value.oneCell']) (by unfold maxLen;omega) (by omega) (hB1).2.size ?_;intro v3 w3 o3 g3;have hbf3:Bf w1 W w3 v3 (zs++[32]):=hB1.put o3 rfl rfl g3;have hl3:(zs++[32]).length=zs.length+1:=(by simp);have q3:=HQ.out _ hbf3.3;obtain⟨a3,M3,p3,rfl,hM3⟩:=hbf3.shape2)
  | (refine step_append_own2 rfl _ _ 41 rfl W.heap.size 5 i0 (.int .u8 0) 1 1 Tryz.underlying41 hi hz0 hz1 hz2 rfl (by decide) (.slice a zs.length cap) _ _ rfl (hB1.later hd4.2).1 ⟨_,0,none⟩ 1 1 [.int .u8 32] rfl rfl (Later.ones hd4.2 hsz hS1) (by simp[Value.oneCell']) (by unfold maxLen;omega) (by omega) (hB1.later hd4.2).2.size ?_;intro v3 w3 o3 g3;have hfin:Bf w1 W w3 v3 (zs++[32]):=(hB1.later hd4.2).put o3 rfl rfl g3;have hl3:(zs++[32]).length=zs.length+1:=(by simp);have hrow:=hd4.keep g3 hlt1;obtain⟨g5,q5,e5,_,_,hcf⟩:=row_cells hrow (by omega);cases e5;obtain⟨a3,M3,p3,rfl,hM3⟩:=hfin.shape2)
  | (refine step_append_own2 rfl _ _ 41 rfl W.heap.size 5 i0 (.int .u8 0) 1 1 Tryz.underlying41 hi hz0 hz1 hz2 rfl (by decide) (.slice a zs.length cap) _ _ rfl ((hB0.later hd4.2).alloc _).1 ⟨_,0,none⟩ 1 1 [.int .u8 32] rfl rfl (new_oneb _ _) (by simp[Value.oneCell']) (by unfold maxLen;omega) (by omega) ((hB0.later hd4.2).alloc _).2.size ?_;intro v3 w3 o3 g3;have hfin:Bf w1 W w3 v3 (zs++[32]):=((hB0.later hd4.2).alloc _).put o3 rfl rfl g3;have hl3:(zs++[32]).length=zs.length+1:=(by simp);have hrow:=(hd4.alloc _).keep g3 hlt0;obtain⟨g5,q5,e5,_,_,hcf⟩:=row_cells hrow (by omega);cases e5;obtain⟨a3,M3,p3,rfl,hM3⟩:=hfin.shape2)
  | ((fail_if_success (have _g:=hbf3));refine step_call rfl 162 en_dec _ _ rfl [.int .i64 n] rfl (fun v w'=>Bf _ _ w' v ys) (HD.out _) ?_;intro v4 w4 hd4;obtain⟨g4,q4,rfl,hb4,_,hcf0⟩:=row_cells hd4.1 (by omega))
  | (have _g:=hbf3;(refine step_call rfl 162 en_dec _ _ rfl [.int .i64 n] rfl (fun v w'=>Bf _ _ w' v ys) (HD.out _) ?_;intro v4 w4 hd4;have hfin:=hbf3.later hd4.2;obtain⟨g4,q4,rfl,hb4,_,hcf⟩:=row_cells hd4.1 (by omega)))
  | fail "none")
 all_goals
  go_wp2_with fail
  go_simp
  go_ret
  exact HF.out _ _ hbf5
theorem hexL_len2 (n:Int):1≤(hexL n).length∧(hexL n).length≤21:=by rw[hexL_len];exact⟨by decide,by decide⟩
theorem say_1 (A W w:World) (v sv v0 v1:Value) (zs:List Int) (n tk tn:Int) (h:Bf A W w v zs) (hb:zs.length≤1000000) :
  Calls Tryz.prog 135 #[v,.agg #[.int .i64 1,.int .i64 n,.int .i64 tk,.int .i64 tn,v0,v1],sv] w (SayP A W (zs++32::hexL n)):=by
 obtain⟨i0,hi,hz0,hz1,hz2⟩:=info_parts Tryz.info5
 obtain⟨a,cap,rfl⟩:=h.shape
 have hys:=hexL_len2 n
 have HD:Hid (∀ w',Calls Tryz.prog 163 #[.int .i64 n] w' (SayP w' w' (hexL n))):=fun w'=>hex_any n w'
 generalize hexL n=ys at *
 obtain⟨w1,hw1⟩:∃ w1,Hid (w1=w.alloc (.cells #[.int .i64 1,.int .i64 n,.int .i64 tk,.int .i64 tn,v0,v1] 96)):=⟨_,rfl⟩
 have hA:Bf A W w1 (.slice a zs.length cap) zs:=by rw[hw1.out];exact h.alloc _
 have hbx:BxT w.heap.size w1 [.int .i64 1,.int .i64 n,.int .i64 tk,.int .i64 tn,v0,v1] 96:=by rw[hw1.out];exact BxT.new w _ _
 have HQ:Hid (∀ w',K8 w1 w'→w'.cell? ⟨w.heap.size,1,none⟩=some (.int .i64 n)):=fun w' k=>(hbx.k8 k (by decide)).cell 1 _ rfl
 have q1:=HQ.out w1.drew (Later.drew _).k8
 have q1':=HQ.out (w1.alloc (.cells #[.int .u8 32] 5)).drew ((later1 _ _).trans (Later.drew _)).k8
 have HF:Hid (∀ v' w',Bf w1 W w' v' (zs++[32]++ys)→SayP A W (zs++32::ys) (.returned v') w'):=fun v' w' h=>⟨v',rfl,by have h2:=h.back hA.3;rwa [List.append_assoc]at h2⟩
 have hB0:=hA.from.later (Later.drew _)
 have hB1:=(hA.from.alloc (.cells #[.int .u8 32] 5)).later (Later.drew _)
 have hS1:=Later.ones (Later.drew (w1.alloc (.cells #[.int .u8 32] 5))) (g:=w1.heap.size) (by simp) (new_oneb w1 32)
 have hlt0:∀ b,Value.ownBlock (.slice a zs.length cap)=some b→b<w1.drew.heap.size:=fun b hb=>(hB0.1.lt b hb).2
 have hlt1:∀ b,Value.ownBlock (.slice a zs.length cap)=some b→b<(w1.alloc (.cells #[.int .u8 32] 5)).drew.heap.size:=fun b hb=>(hB1.1.lt b hb).2
 have hsz:w1.heap.size<(w1.alloc (.cells #[.int .u8 32] 5)).drew.heap.size:=by show w1.heap.size<(w1.heap.push _).size;simp
 clear hbx hA h
 generalize hQ:SayP A W (zs++32::ys)=Q
 rw[hQ]at HF
 go_enter Tryz.func135,Tryz.ntmps135
 go_wp2_with fail
 rw[←hw1.out]
 go_region_law (first
  | (have _g:=hfin;(refine step_append_own2 rfl _ _ 41 rfl W.heap.size 5 i0 (.int .u8 0) 1 1 Tryz.underlying41 hi hz0 hz1 hz2 rfl (by decide) (.slice a3 M3 p3) _ _ rfl hfin.1 ⟨g4,0,none⟩ ys.length q4 (ys.map (Value.int .u8)) rfl (by rw[List.length_map,Nat.mul_one]) hcf (one_all ys) (by rw[hl3];unfold maxLen;omega) (by rw[hl3];omega) hfin.2.size ?_;intro v5 w5 o5 g5;have hbf5:=hfin.put o5 rfl rfl g5))
  | (refine step_append_own2 rfl _ _ 41 rfl W.heap.size 5 i0 (.int .u8 0) 1 1 Tryz.underlying41 hi hz0 hz1 hz2 rfl (by decide) (.slice a zs.length cap) _ _ rfl (hB1).1 ⟨_,0,none⟩ 1 1 [.int .u8 32] rfl rfl (hS1) (by simp[Value.oneCell']) (by unfold maxLen;omega) (by omega) (hB1).2.size ?_;intro v3 w3 o3 g3;have hbf3:Bf w1 W w3 v3 (zs++[32]):=hB1.put o3 rfl rfl g3;have hl3:(zs++[32]).length=zs.length+1:=(by simp);have q3:=HQ.out _ hbf3.3;obtain⟨a3,M3,p3,rfl,hM3⟩:=hbf3.shape2)
  | (refine step_append_own2 rfl _ _ 41 rfl W.heap.size 5 i0 (.int .u8 0) 1 1 Tryz.underlying41 hi hz0 hz1 hz2 rfl (by decide) (.slice a zs.length cap) _ _ rfl (hB1.later hd4.2).1 ⟨_,0,none⟩ 1 1 [.int .u8 32] rfl rfl (Later.ones hd4.2 hsz hS1) (by simp[Value.oneCell']) (by unfold maxLen;omega) (by omega) (hB1.later hd4.2).2.size ?_;intro v3 w3 o3 g3;have hfin:Bf w1 W w3 v3 (zs++[32]):=(hB1.later hd4.2).put o3 rfl rfl g3;have hl3:(zs++[32]).length=zs.length+1:=(by simp);have hrow:=hd4.keep g3 hlt1;obtain⟨g5,q5,e5,_,_,hcf⟩:=row_cells hrow (by omega);cases e5;obtain⟨a3,M3,p3,rfl,hM3⟩:=hfin.shape2)
  | (refine step_append_own2 rfl _ _ 41 rfl W.heap.size 5 i0 (.int .u8 0) 1 1 Tryz.underlying41 hi hz0 hz1 hz2 rfl (by decide) (.slice a zs.length cap) _ _ rfl ((hB0.later hd4.2).alloc _).1 ⟨_,0,none⟩ 1 1 [.int .u8 32] rfl rfl (new_oneb _ _) (by simp[Value.oneCell']) (by unfold maxLen;omega) (by omega) ((hB0.later hd4.2).alloc _).2.size ?_;intro v3 w3 o3 g3;have hfin:Bf w1 W w3 v3 (zs++[32]):=((hB0.later hd4.2).alloc _).put o3 rfl rfl g3;have hl3:(zs++[32]).length=zs.length+1:=(by simp);have hrow:=(hd4.alloc _).keep g3 hlt0;obtain⟨g5,q5,e5,_,_,hcf⟩:=row_cells hrow (by omega);cases e5;obtain⟨a3,M3,p3,rfl,hM3⟩:=hfin.shape2)
  | ((fail_if_success (have _g:=hbf3));refine step_call rfl 163 en_hex _ _ rfl [.int .i64 n] rfl (fun v w'=>Bf _ _ w' v ys) (HD.out _) ?_;intro v4 w4 hd4;obtain⟨g4,q4,rfl,hb4,_,hcf0⟩:=row_cells hd4.1 (by omega))
  | (have _g:=hbf3;(refine step_call rfl 163 en_hex _ _ rfl [.int .i64 n] rfl (fun v w'=>Bf _ _ w' v ys) (HD.out _) ?_;intro v4 w4 hd4;have hfin:=hbf3.later hd4.2;obtain⟨g4,q4,rfl,hb4,_,hcf⟩:=row_cells hd4.1 (by omega)))
  | fail "none")
 all_goals
  go_wp2_with fail
  go_simp
  go_ret
  exact HF.out _ _ hbf5
def Kid (W:World) (sv v1:Value) (m j:Nat) (t:List Int):Prop:=j<m∧∃ (g off cap:Nat) (k n tk tn:Int) (u0 u1:Value),v1=.slice (some ⟨g,off,none⟩) m cap∧g<W.heap.size ∧
 (∀ w',Later W w'→w'.cell? ⟨g,off+j*6,none⟩=some (.int .i64 k)∧w'.cell? ⟨g,off+j*6+1,none⟩=some (.int .i64 n)∧w'.cell? ⟨g,off+j*6+2,none⟩=some (.int .i64 tk)∧w'.cell? ⟨g,off+j*6+3,none⟩=some (.int .i64 tn)∧w'.cell? ⟨g,off+j*6+4,none⟩=some u0∧w'.cell? ⟨g,off+j*6+5,none⟩=some u1) ∧
 (∀ A w v zs,Bf A W w v zs→zs.length+t.length≤1000000→Calls Tryz.prog 135 #[v,.agg #[.int .i64 k,.int .i64 n,.int .i64 tk,.int .i64 tn,u0,u1],sv] w (SayP A W (zs++t)))
theorem BxT.at {b:Nat}{A:World}{cs:List Value}{t:TypeId}(h:BxT b A cs t) (ht:t≠5) (i:Nat) (u:Value) (hu:cs[i]?=some u):∀ w',K8 A w'→w'.cell? ⟨b,i,none⟩=some u:=fun _ k=>(h.k8 k ht).cell i u hu
theorem say_11 (A W w:World) (v sv v0 v1:Value) (zs:List Int) (n tk tn:Int) (h:Bf A W w v zs) (hb:zs.length≤1000000) :
  Calls Tryz.prog 135 #[v,.agg #[.int .i64 11,.int .i64 n,.int .i64 tk,.int .i64 tn,v0,v1],sv] w (SayP A W (zs++[32,114,101,97,100])):=by
 obtain⟨i0,hi,hz0,hz1,hz2⟩:=info_parts Tryz.info5
 obtain⟨a,cap,rfl⟩:=h.shape
 obtain⟨w1,hw1⟩:∃ w1,Hid (w1=w.alloc (.cells #[.int .i64 11,.int .i64 n,.int .i64 tk,.int .i64 tn,v0,v1] 96)):=⟨_,rfl⟩
 have hA:Bf A W w1 (.slice a zs.length cap) zs:=by rw[hw1.out];exact h.alloc _
 have hbx:BxT w.heap.size w1 [.int .i64 11,.int .i64 n,.int .i64 tk,.int .i64 tn,v0,v1] 96:=by rw[hw1.out];exact BxT.new w _ _
 have HF:Hid (∀ v' w',Bf w1 W w' v' (zs++[32,114,101,97,100])→SayP A W (zs++[32,114,101,97,100]) (.returned v') w'):=fun v' w' h=>⟨v',rfl,h.back hA.3⟩
 have hA1:=hA.from
 clear hA h
 generalize hQ:SayP A W (zs++[32,114,101,97,100])=Q
 rw[hQ]at HF
 clear hbx
 obtain rfl:=hw1.out
 go_enter Tryz.func135,Tryz.ntmps135
 go_wp2_with (at_builtin;refine Go.Lib.wpList_append_own_string _ rfl _ _ 41 9 rfl W.heap.size 5 i0 Tryz.underlying41 Tryz.underlying9 hi hz0 hz1 hz2 (.slice a zs.length cap) _ _ rfl hA1.1 _ rfl (by show _+5≤maxLen;unfold maxLen;omega) (by show _+5≤_;omega) hA1.2.size ?_;intro v3 w3 o3 g3 _)
 exact HF.out _ _ (hA1.put o3 rfl rfl g3)
theorem say_3 (A W w:World) (v sv v0 v1:Value) (zs:List Int) (n tk tn:Int) (h:Bf A W w v zs) (hb:zs.length≤1000000) (nm:List Int) (hv0:RdN W v0 nm) (hn1:1≤nm.length) (hn2:nm.length≤1000) :
  Calls Tryz.prog 135 #[v,.agg #[.int .i64 3,.int .i64 n,.int .i64 tk,.int .i64 tn,v0,v1],sv] w (SayP A W (zs++([32]++nm))):=by
 obtain⟨i0,hi,hz0,hz1,hz2⟩:=info_parts Tryz.info5
 obtain⟨a,cap,rfl⟩:=h.shape
 obtain⟨g0,off0,q,rfl,hg0,hcells⟩:=nm_cells hv0 hn1
 obtain⟨w1,hw1⟩:∃ w1,Hid (w1=w.alloc (.cells #[.int .i64 3,.int .i64 n,.int .i64 tk,.int .i64 tn,.slice (some ⟨g0,off0,none⟩) nm.length q,v1] 96)):=⟨_,rfl⟩
 have hA:Bf A W w1 (.slice a zs.length cap) zs:=by rw[hw1.out];exact h.alloc _
 have hbx:BxT w.heap.size w1 [.int .i64 3,.int .i64 n,.int .i64 tk,.int .i64 tn,.slice (some ⟨g0,off0,none⟩) nm.length q,v1] 96:=by rw[hw1.out];exact BxT.new w _ _
 have HF:Hid (∀ v' w',Bf w1 W w' v' (zs++([32]++nm))→SayP A W (zs++([32]++nm)) (.returned v') w'):=fun v' w' h=>⟨v',rfl,h.back hA.3⟩
 have hA1:=hA.from
 clear hA h
 generalize hQ:SayP A W (zs++([32]++nm))=Q
 rw[hQ]at HF
 have HQ:Hid (∀ w',K8 w1 w'→w'.cell? ⟨w.heap.size,4,none⟩=some (.slice (some ⟨g0,off0,none⟩) nm.length q)):=hbx.at (by decide) 4 _ rfl
 have HC:Hid (∀ w',Later W w'→∀ j u,(nm.map (Value.int .u8))[j]?=some u→w'.cell? ((⟨g0,off0,none⟩:Addr).add j)=some u):=hcells
 have q1:=HQ.out w1.drew (Later.drew _).k8
 have q1':=HQ.out (w1.alloc (.cells #[.int .u8 32] 5)).drew ((later1 _ _).trans (Later.drew _)).k8
 have hB1:=(hA1.alloc (.cells #[.int .u8 32] 5)).later (Later.drew _)
 have hS1:=Later.ones (Later.drew (w1.alloc (.cells #[.int .u8 32] 5))) (g:=w1.heap.size) (by simp) (new_oneb w1 32)
 obtain⟨X,hX⟩:∃ X,Hid (X=nm.map (Value.int .u8)):=⟨_,rfl⟩
 have hXl:X.length=nm.length:=by rw[hX.out];simp
 have hX1:∀ u∈X,u.oneCell'=true:=by rw[hX.out];exact one_all nm
 rw[←hX.out]at HC
 clear hbx hcells hv0
 go_enter Tryz.func135,Tryz.ntmps135
 go_wp2_with fail
 rw[←hw1.out]
 go_region_law (first
  | (have _g:=hbf3;(refine step_append_own2 rfl _ _ 41 rfl W.heap.size 5 i0 (.int .u8 0) 1 1 Tryz.underlying41 hi hz0 hz1 hz2 rfl (by decide) (.slice a3 M3 p3) _ _ rfl hbf3.1 ⟨g0,off0,none⟩ nm.length q X rfl (by rw[hXl,Nat.mul_one]) (HC.out _ hbf3.2) hX1 (by rw[hl3];unfold maxLen;omega) (by rw[hl3];omega) hbf3.2.size ?_;intro v5 w5 o5 g5;have hbf5:=hbf3.put o5 rfl hX.out g5))
  | (refine step_append_own2 rfl _ _ 41 rfl W.heap.size 5 i0 (.int .u8 0) 1 1 Tryz.underlying41 hi hz0 hz1 hz2 rfl (by decide) (.slice a zs.length cap) _ _ rfl hB1.1 ⟨_,0,none⟩ 1 1 [.int .u8 32] rfl rfl hS1 (by simp[Value.oneCell']) (by unfold maxLen;omega) (by omega) hB1.2.size ?_;intro v3 w3 o3 g3;have hbf3:Bf w1 W w3 v3 (zs++[32]):=hB1.put o3 rfl rfl g3;have hl3:(zs++[32]).length=zs.length+1:=(by simp);have q3:=HQ.out _ hbf3.3;obtain⟨a3,M3,p3,rfl,hM3⟩:=hbf3.shape2)
  | fail "none")
 all_goals
  rw[List.append_assoc]at hbf5
  go_wp2_with fail
  go_simp
  go_ret
  exact HF.out _ _ hbf5
theorem say_2 (A W w:World) (v sv v0 v1:Value) (zs:List Int) (n tk tn:Int) (h:Bf A W w v zs) (hb:zs.length≤1000000) (l:List Sc) (hl:RdL W 2 sv (Sc.dats l)) (h0:0≤n) (h1:n<l.length) (hnm:∀ x∈l,1≤x.name.length∧x.name.length≤1000) :
  Calls Tryz.prog 135 #[v,.agg #[.int .i64 2,.int .i64 n,.int .i64 tk,.int .i64 tn,v0,v1],sv] w (SayP A W (zs++([32,110,105,108,32]++nmAt l n))):=by
 obtain⟨i0,hi,hz0,hz1,hz2⟩:=info_parts Tryz.info5
 obtain⟨a,cap,rfl⟩:=h.shape
 obtain⟨N,rfl⟩:∃ N:Nat,n=N:=⟨n.toNat,by omega⟩
 have hN:N<l.length:=by omega
 obtain⟨sa,scap,rfl,hsl⟩:=Sc.slice hl
 obtain⟨g,off,u0,u1,rfl,hg,hc0,hc1,hr0,hr1⟩:=Sc.elem hl N hN
 obtain⟨hn1,hn2⟩:=hnm l[N] (List.getElem_mem hN)
 have he:nmAt l (N:Int)=l[N].name:=by unfold nmAt;rw[Int.toNat_natCast,List.getElem?_eq_getElem hN]
 rw[he]
 generalize l[N].name=nm at *
 obtain⟨g0,off0,q,rfl,hg0,hcells⟩:=nm_cells hr0 hn1
 obtain⟨w1,hw1⟩:∃ w1,Hid (w1=w.alloc (.cells #[.int .i64 2,.int .i64 (N:Int),.int .i64 tk,.int .i64 tn,v0,v1] 96)):=⟨_,rfl⟩
 have hA:Bf A W w1 (.slice a zs.length cap) zs:=by rw[hw1.out];exact h.alloc _
 have hbx:BxT w.heap.size w1 [.int .i64 2,.int .i64 (N:Int),.int .i64 tk,.int .i64 tn,v0,v1] 96:=by rw[hw1.out];exact BxT.new w _ _
 have HF:Hid (∀ v' w',Bf w1 W w' v' (zs++([32,110,105,108,32]++nm))→SayP A W (zs++([32,110,105,108,32]++nm)) (.returned v') w'):=fun v' w' h=>⟨v',rfl,h.back hA.3⟩
 have hA1:=hA.from
 clear hA h
 generalize hQ:SayP A W (zs++([32,110,105,108,32]++nm))=Q
 rw[hQ]at HF
 have HQ:Hid (∀ w',K8 w1 w'→w'.cell? ⟨w.heap.size,1,none⟩=some (.int .i64 (N:Int))):=hbx.at (by decide) 1 _ rfl
 have HC:Hid (∀ w',Later W w'→∀ j u,(nm.map (Value.int .u8))[j]?=some u→w'.cell? ((⟨g0,off0,none⟩:Addr).add j)=some u):=hcells
 have HG:Hid (∀ w',Later W w'→w'.cell? ⟨g,off+N*2,none⟩=some (.slice (some ⟨g0,off0,none⟩) nm.length q)):=fun w' hw=>by rw[hw.cell (p:=⟨g,off+N*2,none⟩) hg];exact hc0
 have q1:=HQ.out w1.drew (Later.drew _).k8
 have hB0:=hA1.later (Later.drew _)
 have q2:=HG.out w1.drew hB0.2
 obtain⟨X,hX⟩:∃ X,Hid (X=nm.map (Value.int .u8)):=⟨_,rfl⟩
 have hXl:X.length=nm.length:=by rw[hX.out];simp
 have hX1:∀ u∈X,u.oneCell'=true:=by rw[hX.out];exact one_all nm
 rw[←hX.out]at HC
 clear hbx hcells hr0 hr1 hc0 hc1 hl hnm he
 go_enter Tryz.func135,Tryz.ntmps135
 go_wp2_with fail
 rw[←hw1.out]
 go_region_law (first
  | (have _g:=hbf3;(refine step_append_own2 rfl _ _ 41 rfl W.heap.size 5 i0 (.int .u8 0) 1 1 Tryz.underlying41 hi hz0 hz1 hz2 rfl (by decide) (.slice a3 M3 p3) _ _ rfl hbf3.1 ⟨g0,off0,none⟩ nm.length q X rfl (by rw[hXl,Nat.mul_one]) (HC.out _ hbf3.2) hX1 (by rw[hl3];unfold maxLen;omega) (by rw[hl3];omega) hbf3.2.size ?_;intro v5 w5 o5 g5;have hbf5:=hbf3.put o5 rfl hX.out g5))
  | (refine step_append_str rfl _ _ 41 9 rfl W.heap.size 5 i0 Tryz.underlying41 Tryz.underlying9 hi hz0 hz1 hz2 (.slice a zs.length cap) _ _ rfl hB0.1 _ rfl (by show zs.length+5≤maxLen;unfold maxLen;omega) (by show zs.length+5≤_;omega) hB0.2.size ?_;intro v3 w3 o3 g3;have hbf3:Bf w1 W w3 v3 (zs++[32,110,105,108,32]):=hB0.put o3 rfl rfl g3;have hl3:(zs++[32,110,105,108,32]).length=zs.length+5:=(by simp);have q3:=HQ.out _ hbf3.3;have q4:=HG.out _ hbf3.2;obtain⟨a3,M3,p3,rfl,hM3⟩:=hbf3.shape2)
  | fail "none")
 all_goals
  rw[List.append_assoc]at hbf5
  go_wp2_with fail
  go_simp
  go_ret
  exact HF.out _ _ hbf5
theorem say_4 (A W w:World) (v sv v0 v1:Value) (zs:List Int) (n tk tn:Int) (h:Bf A W w v zs) (hb:zs.length≤1000000) (l:List Sc) (hl:RdL W 2 sv (Sc.dats l)) (h0:0≤n) (h1:n<l.length) (hnm:∀ x∈l,1≤x.name.length∧x.name.length≤1000) :
  Calls Tryz.prog 135 #[v,.agg #[.int .i64 4,.int .i64 n,.int .i64 tk,.int .i64 tn,v0,v1],sv] w (SayP A W (zs++([32,110,101,119,32]++nmAt l n))):=by
 obtain⟨i0,hi,hz0,hz1,hz2⟩:=info_parts Tryz.info5
 obtain⟨a,cap,rfl⟩:=h.shape
 obtain⟨N,rfl⟩:∃ N:Nat,n=N:=⟨n.toNat,by omega⟩
 have hN:N<l.length:=by omega
 obtain⟨sa,scap,rfl,hsl⟩:=Sc.slice hl
 obtain⟨g,off,u0,u1,rfl,hg,hc0,hc1,hr0,hr1⟩:=Sc.elem hl N hN
 obtain⟨hn1,hn2⟩:=hnm l[N] (List.getElem_mem hN)
 have he:nmAt l (N:Int)=l[N].name:=by unfold nmAt;rw[Int.toNat_natCast,List.getElem?_eq_getElem hN]
 rw[he]
 generalize l[N].name=nm at *
 obtain⟨g0,off0,q,rfl,hg0,hcells⟩:=nm_cells hr0 hn1
 obtain⟨w1,hw1⟩:∃ w1,Hid (w1=w.alloc (.cells #[.int .i64 4,.int .i64 (N:Int),.int .i64 tk,.int .i64 tn,v0,v1] 96)):=⟨_,rfl⟩
 have hA:Bf A W w1 (.slice a zs.length cap) zs:=by rw[hw1.out];exact h.alloc _
 have hbx:BxT w.heap.size w1 [.int .i64 4,.int .i64 (N:Int),.int .i64 tk,.int .i64 tn,v0,v1] 96:=by rw[hw1.out];exact BxT.new w _ _
 have HF:Hid (∀ v' w',Bf w1 W w' v' (zs++([32,110,101,119,32]++nm))→SayP A W (zs++([32,110,101,119,32]++nm)) (.returned v') w'):=fun v' w' h=>⟨v',rfl,h.back hA.3⟩
 have hA1:=hA.from
 clear hA h
 generalize hQ:SayP A W (zs++([32,110,101,119,32]++nm))=Q
 rw[hQ]at HF
 have HQ:Hid (∀ w',K8 w1 w'→w'.cell? ⟨w.heap.size,1,none⟩=some (.int .i64 (N:Int))):=hbx.at (by decide) 1 _ rfl
 have HC:Hid (∀ w',Later W w'→∀ j u,(nm.map (Value.int .u8))[j]?=some u→w'.cell? ((⟨g0,off0,none⟩:Addr).add j)=some u):=hcells
 have HG:Hid (∀ w',Later W w'→w'.cell? ⟨g,off+N*2,none⟩=some (.slice (some ⟨g0,off0,none⟩) nm.length q)):=fun w' hw=>by rw[hw.cell (p:=⟨g,off+N*2,none⟩) hg];exact hc0
 have q1:=HQ.out w1.drew (Later.drew _).k8
 have hB0:=hA1.later (Later.drew _)
 have q2:=HG.out w1.drew hB0.2
 obtain⟨X,hX⟩:∃ X,Hid (X=nm.map (Value.int .u8)):=⟨_,rfl⟩
 have hXl:X.length=nm.length:=by rw[hX.out];simp
 have hX1:∀ u∈X,u.oneCell'=true:=by rw[hX.out];exact one_all nm
 rw[←hX.out]at HC
 clear hbx hcells hr0 hr1 hc0 hc1 hl hnm he
 go_enter Tryz.func135,Tryz.ntmps135
 go_wp2_with fail
 rw[←hw1.out]
 go_region_law (first
  | (have _g:=hbf3;(refine step_append_own2 rfl _ _ 41 rfl W.heap.size 5 i0 (.int .u8 0) 1 1 Tryz.underlying41 hi hz0 hz1 hz2 rfl (by decide) (.slice a3 M3 p3) _ _ rfl hbf3.1 ⟨g0,off0,none⟩ nm.length q X rfl (by rw[hXl,Nat.mul_one]) (HC.out _ hbf3.2) hX1 (by rw[hl3];unfold maxLen;omega) (by rw[hl3];omega) hbf3.2.size ?_;intro v5 w5 o5 g5;have hbf5:=hbf3.put o5 rfl hX.out g5))
  | (refine step_append_str rfl _ _ 41 9 rfl W.heap.size 5 i0 Tryz.underlying41 Tryz.underlying9 hi hz0 hz1 hz2 (.slice a zs.length cap) _ _ rfl hB0.1 _ rfl (by show zs.length+5≤maxLen;unfold maxLen;omega) (by show zs.length+5≤_;omega) hB0.2.size ?_;intro v3 w3 o3 g3;have hbf3:Bf w1 W w3 v3 (zs++[32,110,101,119,32]):=hB0.put o3 rfl rfl g3;have hl3:(zs++[32,110,101,119,32]).length=zs.length+5:=(by simp);have q3:=HQ.out _ hbf3.3;have q4:=HG.out _ hbf3.2;obtain⟨a3,M3,p3,rfl,hM3⟩:=hbf3.shape2)
  | fail "none")
 all_goals
  rw[List.append_assoc]at hbf5
  go_wp2_with fail
  go_simp
  go_ret
  exact HF.out _ _ hbf5
theorem say_7 (A W w:World) (v sv v0 v1:Value) (zs:List Int) (n tk tn:Int) (h:Bf A W w v zs) (m:Nat) (t0 nm:List Int) (hk0:Kid W sv v1 m 0 t0) (hv0:RdN W v0 nm) (hn1:1≤nm.length) (hb:zs.length+t0.length+3+nm.length≤1000000) :
  Calls Tryz.prog 135 #[v,.agg #[.int .i64 7,.int .i64 n,.int .i64 tk,.int .i64 tn,v0,v1],sv] w (SayP A W (zs++(t0++[32,46,32]++nm))):=by
 obtain⟨i0,hi,hz0,hz1,hz2⟩:=info_parts Tryz.info5
 obtain⟨a,cap,rfl⟩:=h.shape
 obtain⟨hm0,g,off,cap1,k0,n0,tk0,tn0,u0,u1,rfl,hgW,hcl,hcall⟩:=hk0
 obtain⟨c0,c1,c2,c3,c4,c5⟩:=hcl w h.2
 rw[Nat.zero_mul,Nat.add_zero]at c0 c1 c2 c3 c4 c5
 have hgw:g<w.heap.size:=Nat.lt_of_lt_of_le hgW h.2.size
 obtain⟨g0,off0,q,rfl,hg0,hcells⟩:=nm_cells hv0 hn1
 obtain⟨w1,hw1⟩:∃ w1,Hid (w1=w.alloc (.cells #[.int .i64 7,.int .i64 n,.int .i64 tk,.int .i64 tn,.slice (some ⟨g0,off0,none⟩) nm.length q,.slice (some ⟨g,off,none⟩) m cap1] 96)):=⟨_,rfl⟩
 have hA:Bf A W w1 (.slice a zs.length cap) zs:=by rw[hw1.out];exact h.alloc _
 have hbx:BxT w.heap.size w1 [.int .i64 7,.int .i64 n,.int .i64 tk,.int .i64 tn,.slice (some ⟨g0,off0,none⟩) nm.length q,.slice (some ⟨g,off,none⟩) m cap1] 96:=by rw[hw1.out];exact BxT.new w _ _
 have HF:Hid (∀ v' w',Bf w1 W w' v' (zs++(t0++[32,46,32]++nm))→SayP A W (zs++(t0++[32,46,32]++nm)) (.returned v') w'):=fun v' w' h=>⟨v',rfl,h.back hA.3⟩
 have hA1:=hA.from
 clear hA h
 generalize hQ:SayP A W (zs++(t0++[32,46,32]++nm))=Q
 rw[hQ]at HF
 have HQ:Hid (∀ w',K8 w1 w'→w'.cell? ⟨w.heap.size,4,none⟩=some (.slice (some ⟨g0,off0,none⟩) nm.length q)):=hbx.at (by decide) 4 _ rfl
 have HC:Hid (∀ w',Later W w'→∀ j u,(nm.map (Value.int .u8))[j]?=some u→w'.cell? ((⟨g0,off0,none⟩:Addr).add j)=some u):=hcells
 have HK:=hcall w1 w1 _ _ hA1 (by omega)
 obtain⟨X,hX⟩:∃ X,Hid (X=nm.map (Value.int .u8)):=⟨_,rfl⟩
 have hXl:X.length=nm.length:=by rw[hX.out];simp
 have hX1:∀ u∈X,u.oneCell'=true:=by rw[hX.out];exact one_all nm
 rw[←hX.out]at HC
 have hm0':(0:Int)<(m:Int):=by omega
 clear hbx hcells hv0 hcl hcall
 obtain rfl:=hw1.out
 go_enter Tryz.func135,Tryz.ntmps135
 go_wp2_with fail
 refine HK.mono ?_
 rintro e w3 ⟨v3,rfl,hb3⟩
 have q3:=HQ.out _ hb3.3
 have hl3:(zs++t0).length=zs.length+t0.length:=by simp
 obtain⟨a3,M3,p3,rfl,hM3⟩:=hb3.shape2
 go_wp2_with (first|(have _g:=hb5;(at_builtin;refine wpList_append_own _ rfl _ _ 41 rfl W.heap.size 5 i0 (.int .u8 0) 1 1 Tryz.underlying41 hi hz0 hz1 hz2 rfl (by decide) (.slice a5 M5 p5) _ _ rfl hb5.1 ⟨g0,off0,none⟩ nm.length q X rfl (by rw[hXl,Nat.mul_one]) (HC.out _ hb5.2) hX1 (by rw[hl5];unfold maxLen;omega) (by rw[hl5];omega) hb5.2.size ?_;intro v7 w7 o7 g7 _))|(at_builtin;refine Go.Lib.wpList_append_own_string _ rfl _ _ 41 9 rfl W.heap.size 5 i0 Tryz.underlying41 Tryz.underlying9 hi hz0 hz1 hz2 (.slice a3 M3 p3) _ _ rfl hb3.1 _ rfl (by rw[hl3];show _+3≤maxLen;unfold maxLen;omega) (by rw[hl3];show _+3≤_;omega) hb3.2.size ?_;intro v5 w5 o5 g5 _;have hb5:=hb3.put o5 (ts:=[32,46,32]) rfl rfl g5;have q5:=HQ.out _ hb5.3;have hl5:(zs++t0++[32,46,32]).length=zs.length+t0.length+3:=(by simp;omega);obtain⟨a5,M5,p5,rfl,hM5⟩:=hb5.shape2))
 have hb7:=hb5.put o7 (ts:=nm) rfl hX.out g7
 rw[List.append_assoc,List.append_assoc,← List.append_assoc t0]at hb7
 exact HF.out _ _ hb7
theorem say_8 (A W w:World) (v sv v0 v1:Value) (zs:List Int) (n tk tn:Int) (h:Bf A W w v zs) (m:Nat) (t0 t1:List Int) (hk0:Kid W sv v1 m 0 t0) (hk1:Kid W sv v1 m 1 t1) (hb:zs.length+t0.length+2+t1.length+2≤1000000) :
  Calls Tryz.prog 135 #[v,.agg #[.int .i64 8,.int .i64 n,.int .i64 tk,.int .i64 tn,v0,v1],sv] w (SayP A W (zs++(t0++[32,91]++t1++[32,93]))):=by
 obtain⟨i0,hi,hz0,hz1,hz2⟩:=info_parts Tryz.info5
 obtain⟨a,cap,rfl⟩:=h.shape
 obtain⟨hm0,g,off,cap1,k0,n0,tk0,tn0,u0,u1,rfl,hgW,hcl,hcall⟩:=hk0
 obtain⟨c0,c1,c2,c3,c4,c5⟩:=hcl w h.2
 rw[Nat.zero_mul,Nat.add_zero]at c0 c1 c2 c3 c4 c5
 have hgw:g<w.heap.size:=Nat.lt_of_lt_of_le hgW h.2.size
 obtain⟨hm1,g',off',cap1',k1,n1,tk1,tn1,y0,y1,e1,_,hcl1,hcall1⟩:=hk1
 cases e1
 obtain⟨w1,hw1⟩:∃ w1,Hid (w1=w.alloc (.cells #[.int .i64 8,.int .i64 n,.int .i64 tk,.int .i64 tn,v0,.slice (some ⟨g,off,none⟩) m cap1] 96)):=⟨_,rfl⟩
 have hA:Bf A W w1 (.slice a zs.length cap) zs:=by rw[hw1.out];exact h.alloc _
 have hbx:BxT w.heap.size w1 [.int .i64 8,.int .i64 n,.int .i64 tk,.int .i64 tn,v0,.slice (some ⟨g,off,none⟩) m cap1] 96:=by rw[hw1.out];exact BxT.new w _ _
 have HF:Hid (∀ v' w',Bf w1 W w' v' (zs++(t0++[32,91]++t1++[32,93]))→SayP A W (zs++(t0++[32,91]++t1++[32,93])) (.returned v') w'):=fun v' w' h=>⟨v',rfl,h.back hA.3⟩
 have hA1:=hA.from
 clear hA h
 generalize hQ:SayP A W (zs++(t0++[32,91]++t1++[32,93]))=Q
 rw[hQ]at HF
 have HQ:Hid (∀ w',K8 w1 w'→w'.cell? ⟨w.heap.size,5,none⟩=some (.slice (some ⟨g,off,none⟩) m cap1)):=hbx.at (by decide) 5 _ rfl
 have HC1:Hid (∀ w',Later W w'→w'.cell? ⟨g,off+6,none⟩=some (.int .i64 k1)∧w'.cell? ⟨g,off+6+1,none⟩=some (.int .i64 n1)∧w'.cell? ⟨g,off+6+2,none⟩=some (.int .i64 tk1)∧w'.cell? ⟨g,off+6+3,none⟩=some (.int .i64 tn1)∧w'.cell? ⟨g,off+6+4,none⟩=some y0∧w'.cell? ⟨g,off+6+5,none⟩=some y1):=fun w' hw=>by have:=hcl1 w' hw;rwa [Nat.one_mul]at this
 have HK1:Hid (∀ A w v zs,Bf A W w v zs→zs.length+t1.length≤1000000→Calls Tryz.prog 135 #[v,.agg #[.int .i64 k1,.int .i64 n1,.int .i64 tk1,.int .i64 tn1,y0,y1],sv] w (SayP A W (zs++t1))):=hcall1
 have HK:=hcall w1 w1 _ _ hA1 (by omega)
 have hm0':(0:Int)<(m:Int):=by omega
 have hm1':(1:Int)<(m:Int):=by omega
 clear hbx hcl hcall hcl1 hcall1
 obtain rfl:=hw1.out
 go_enter Tryz.func135,Tryz.ntmps135
 go_wp2_with fail
 refine HK.mono ?_
 rintro e w3 ⟨v3,rfl,hb3⟩
 have hl3:(zs++t0).length=zs.length+t0.length:=by simp
 obtain⟨a3,M3,p3,rfl,hM3⟩:=hb3.shape2
 go_wp2_with (first|(at_builtin;refine Go.Lib.wpList_append_own_string _ rfl _ _ 41 9 rfl W.heap.size 5 i0 Tryz.underlying41 Tryz.underlying9 hi hz0 hz1 hz2 (.slice a3 M3 p3) _ _ rfl hb3.1 _ rfl (by rw[hl3];show _+2≤maxLen;unfold maxLen;omega) (by rw[hl3];show _+2≤_;omega) hb3.2.size ?_;intro v5 w5 o5 g5 _;have hb5:=hb3.put o5 (ts:=[32,91]) rfl rfl g5;have q5:=HQ.out _ hb5.3;obtain⟨d0,d1,d2,d3,d4,d5⟩:=HC1.out _ hb5.2;have hl5:(zs++t0++[32,91]).length=zs.length+t0.length+2:=(by simp;omega);obtain⟨a5,M5,p5,rfl,hM5⟩:=hb5.shape2))
 refine (HK1.out _ _ _ _ hb5 (by rw[hl5];omega)).mono ?_
 rintro e w6 ⟨v6,rfl,hb6⟩
 have hl6:(zs++t0++[32,91]++t1).length=zs.length+t0.length+2+t1.length:=by simp;omega
 obtain⟨a6,M6,p6,rfl,hM6⟩:=hb6.shape2
 go_wp2_with (at_builtin;refine Go.Lib.wpList_append_own_string _ rfl _ _ 41 9 rfl W.heap.size 5 i0 Tryz.underlying41 Tryz.underlying9 hi hz0 hz1 hz2 (.slice a6 M6 p6) _ _ rfl hb6.1 _ rfl (by rw[hl6];show _+2≤maxLen;unfold maxLen;omega) (by rw[hl6];show _+2≤_;omega) hb6.2.size ?_;intro v7 w7 o7 g7 _;have hb7:=hb6.put o7 (ts:=[32,93]) rfl rfl g7)
 rw[show zs++t0++[32,91]++t1++[32,93]=zs++(t0++[32,91]++t1++[32,93]) by simp only[List.append_assoc]]at hb7
 exact HF.out _ _ hb7
theorem op_say (n:Int) (w:World) (h0:0≤n) (h1:n<7):Calls Tryz.prog 164 #[.int .i64 n] w fun e w'=>∃ v,e=.returned v∧(v=.string (opS n)∧Later w w'):=by
 refine (op_any n w h0 h1).mono ?_
 rintro e w' ⟨rfl,l⟩
 exact⟨_,rfl,rfl,l⟩
theorem say_10 (A W w:World) (v sv v0 v1:Value) (zs:List Int) (n tk tn:Int) (h:Bf A W w v zs) (m:Nat) (t0 t1:List Int) (hk0:Kid W sv v1 m 0 t0) (hk1:Kid W sv v1 m 1 t1) (hn0:0≤n) (hn7:n<7) (hb:zs.length+2+t0.length+(1+(opL n).length)+t1.length+2≤1000000) :
  Calls Tryz.prog 135 #[v,.agg #[.int .i64 10,.int .i64 n,.int .i64 tk,.int .i64 tn,v0,v1],sv] w (SayP A W (zs++([32,40]++t0++(32::opL n)++t1++[32,41]))):=by
 obtain⟨i0,hi,hz0,hz1,hz2⟩:=info_parts Tryz.info5
 obtain⟨a,cap,rfl⟩:=h.shape
 obtain⟨hm0,g,off,cap1,k0,n0,tk0,tn0,u0,u1,rfl,hgW,hcl,hcall⟩:=hk0
 obtain⟨c0,c1,c2,c3,c4,c5⟩:=hcl w h.2
 rw[Nat.zero_mul,Nat.add_zero]at c0 c1 c2 c3 c4 c5
 have hgw:g<w.heap.size:=Nat.lt_of_lt_of_le hgW h.2.size
 obtain⟨hm1,g',off',cap1',k1,n1,tk1,tn1,y0,y1,e1,_,hcl1,hcall1⟩:=hk1
 cases e1
 obtain⟨w1,hw1⟩:∃ w1,Hid (w1=w.alloc (.cells #[.int .i64 10,.int .i64 n,.int .i64 tk,.int .i64 tn,v0,.slice (some ⟨g,off,none⟩) m cap1] 96)):=⟨_,rfl⟩
 have hA:Bf A W w1 (.slice a zs.length cap) zs:=by rw[hw1.out];exact h.alloc _
 have hbx:BxT w.heap.size w1 [.int .i64 10,.int .i64 n,.int .i64 tk,.int .i64 tn,v0,.slice (some ⟨g,off,none⟩) m cap1] 96:=by rw[hw1.out];exact BxT.new w _ _
 have HF:Hid (∀ v' w',Bf w1 W w' v' (zs++([32,40]++t0++(32::opL n)++t1++[32,41]))→SayP A W (zs++([32,40]++t0++(32::opL n)++t1++[32,41])) (.returned v') w'):=fun v' w' h=>⟨v',rfl,h.back hA.3⟩
 have hA1:=hA.from
 clear hA h
 generalize hQ:SayP A W (zs++([32,40]++t0++(32::opL n)++t1++[32,41]))=Q
 rw[hQ]at HF
 have HQ:Hid (∀ w',K8 w1 w'→w'.cell? ⟨w.heap.size,5,none⟩=some (.slice (some ⟨g,off,none⟩) m cap1)):=hbx.at (by decide) 5 _ rfl
 have HC1:Hid (∀ w',Later W w'→w'.cell? ⟨g,off+6,none⟩=some (.int .i64 k1)∧w'.cell? ⟨g,off+6+1,none⟩=some (.int .i64 n1)∧w'.cell? ⟨g,off+6+2,none⟩=some (.int .i64 tk1)∧w'.cell? ⟨g,off+6+3,none⟩=some (.int .i64 tn1)∧w'.cell? ⟨g,off+6+4,none⟩=some y0∧w'.cell? ⟨g,off+6+5,none⟩=some y1):=fun w' hw=>by have:=hcl1 w' hw;rwa [Nat.one_mul]at this
 have HK1:Hid (∀ A w v zs,Bf A W w v zs→zs.length+t1.length≤1000000→Calls Tryz.prog 135 #[v,.agg #[.int .i64 k1,.int .i64 n1,.int .i64 tk1,.int .i64 tn1,y0,y1],sv] w (SayP A W (zs++t1))):=hcall1
 have HQn:Hid (∀ w',K8 w1 w'→w'.cell? ⟨w.heap.size,1,none⟩=some (.int .i64 n)):=hbx.at (by decide) 1 _ rfl
 have HC0:Hid (∀ w',Later W w'→w'.cell? ⟨g,off,none⟩=some (.int .i64 k0)∧w'.cell? ⟨g,off+1,none⟩=some (.int .i64 n0)∧w'.cell? ⟨g,off+2,none⟩=some (.int .i64 tk0)∧w'.cell? ⟨g,off+3,none⟩=some (.int .i64 tn0)∧w'.cell? ⟨g,off+4,none⟩=some u0∧w'.cell? ⟨g,off+5,none⟩=some u1):=fun w' hw=>by have:=hcl w' hw;rwa [Nat.zero_mul,Nat.add_zero]at this
 have HK0:Hid (∀ A w v zs,Bf A W w v zs→zs.length+t0.length≤1000000→Calls Tryz.prog 135 #[v,.agg #[.int .i64 k0,.int .i64 n0,.int .i64 tk0,.int .i64 tn0,u0,u1],sv] w (SayP A W (zs++t0))):=hcall
 have HD:Hid (∀ w',Calls Tryz.prog 164 #[.int .i64 n] w' fun e w''=>∃ v,e=.returned v∧(v=.string (opS n)∧Later w' w'')):=fun w'=>op_say n w' hn0 hn7
 obtain⟨hs1,hs2,hs3⟩:=opS_cells hn0 hn7
 generalize opS n=S at *
 generalize opL n=ol at *
 have hm0':(0:Int)<(m:Int):=by omega
 have hm1':(1:Int)<(m:Int):=by omega
 have hB0:=hA1.later (Later.drew _)
 have q0:=HQ.out w1.drew hB0.3
 obtain⟨b0,b1,b2,b3,b4,b5⟩:=HC0.out w1.drew hB0.2
 clear hbx hcl hcall hcl1 hcall1 c0 c1 c2 c3 c4 c5
 go_enter Tryz.func135,Tryz.ntmps135
 go_wp2_with fail
 rw[←hw1.out]
 go_region_law (first
  | ((have _g:=hb3);(refine step_call rfl 135 en_say _ _ rfl [.slice a3 M3 p3,.agg #[.int .i64 k0,.int .i64 n0,.int .i64 tk0,.int .i64 tn0,u0,u1],sv] rfl (fun v w'=>Bf w1 W w' v (zs++[32,40]++t0)) (HK0.out _ _ _ _ hb3 (by rw[hl3];omega)) ?_;intro v4 w4 hb4;obtain⟨a4,M4,p4,rfl,hM4⟩:=hb4.shape2))
  | (refine step_append_str rfl _ _ 41 9 rfl W.heap.size 5 i0 Tryz.underlying41 Tryz.underlying9 hi hz0 hz1 hz2 (.slice a zs.length cap) _ _ rfl hB0.1 _ rfl (by show _+2≤maxLen;unfold maxLen;omega) (by show _+2≤_;omega) hB0.2.size ?_;intro v3 w3 o3 g3;have hb3:Bf w1 W w3 v3 (zs++[32,40]):=hB0.put o3 rfl rfl g3;have hl3:(zs++[32,40]).length=zs.length+2:=(by simp);have q3:=HQ.out _ hb3.3;obtain⟨d0,d1,d2,d3,d4,d5⟩:=HC0.out _ hb3.2;obtain⟨a3,M3,p3,rfl,hM3⟩:=hb3.shape2)
  | fail "none")
 all_goals
  have hl4:(zs++[32,40]++t0).length=zs.length+2+t0.length:=by simp;omega
  have hB4:=hb4.later (Later.drew _)
  have hB5:=(hb4.alloc (.cells #[.int .u8 32] 5)).later (Later.drew _)
  have r1:=HQn.out w4.drew hB4.3
  have r2:=HQn.out (w4.alloc (.cells #[.int .u8 32] 5)).drew hB5.3
  have hS5:=Later.ones (Later.drew (w4.alloc (.cells #[.int .u8 32] 5))) (g:=w4.heap.size) (by simp) (new_oneb w4 32)
  have hsz:w4.heap.size<(w4.alloc (.cells #[.int .u8 32] 5)).drew.heap.size:=by show w4.heap.size<(w4.heap.push _).size;simp
  go_wp2_with fail
  go_region_law (first
   | ((have _g:=hfin);(refine step_append_str rfl _ _ 41 9 rfl W.heap.size 5 i0 Tryz.underlying41 Tryz.underlying9 hi hz0 hz1 hz2 (.slice a6 M6 p6) _ _ rfl hfin.1 S rfl (by rw[hl6,hs2];unfold maxLen;omega) (by rw[hl6,hs2];omega) hfin.2.size ?_;intro v9 w9 o9 g9;have hb9:=hfin.put o9 hs2 hs1 g9))
   | (refine step_append_own2 rfl _ _ 41 rfl W.heap.size 5 i0 (.int .u8 0) 1 1 Tryz.underlying41 hi hz0 hz1 hz2 rfl (by decide) (.slice a4 M4 p4) _ _ rfl (hB5).1 ⟨_,0,none⟩ 1 1 [.int .u8 32] rfl rfl (hS5) (by simp[Value.oneCell']) (by rw[hl4];unfold maxLen;omega) (by rw[hl4];omega) (hB5).2.size ?_;intro v6 w6 o6 g6;have hb6:Bf w1 W w6 v6 (zs++[32,40]++t0++[32]):=hB5.put o6 rfl rfl g6;have hl6:(zs++[32,40]++t0++[32]).length=zs.length+2+t0.length+1:=(by simp;omega);have r6:=HQn.out _ hb6.3;obtain⟨a6,M6,p6,rfl,hM6⟩:=hb6.shape2)
   | (refine step_append_own2 rfl _ _ 41 rfl W.heap.size 5 i0 (.int .u8 0) 1 1 Tryz.underlying41 hi hz0 hz1 hz2 rfl (by decide) (.slice a4 M4 p4) _ _ rfl (hB5.later l8).1 ⟨_,0,none⟩ 1 1 [.int .u8 32] rfl rfl (Later.ones l8 hsz hS5) (by simp[Value.oneCell']) (by rw[hl4];unfold maxLen;omega) (by rw[hl4];omega) (hB5.later l8).2.size ?_;intro v6 w6 o6 g6;have hfin:Bf w1 W w6 v6 (zs++[32,40]++t0++[32]):=(hB5.later l8).put o6 rfl rfl g6;have hl6:(zs++[32,40]++t0++[32]).length=zs.length+2+t0.length+1:=(by simp;omega);obtain⟨a6,M6,p6,rfl,hM6⟩:=hfin.shape2)
   | (refine step_append_own2 rfl _ _ 41 rfl W.heap.size 5 i0 (.int .u8 0) 1 1 Tryz.underlying41 hi hz0 hz1 hz2 rfl (by decide) (.slice a4 M4 p4) _ _ rfl ((hB4.later l8).alloc _).1 ⟨_,0,none⟩ 1 1 [.int .u8 32] rfl rfl (new_oneb _ _) (by simp[Value.oneCell']) (by rw[hl4];unfold maxLen;omega) (by rw[hl4];omega) ((hB4.later l8).alloc _).2.size ?_;intro v6 w6 o6 g6;have hfin:Bf w1 W w6 v6 (zs++[32,40]++t0++[32]):=((hB4.later l8).alloc _).put o6 rfl rfl g6;have hl6:(zs++[32,40]++t0++[32]).length=zs.length+2+t0.length+1:=(by simp;omega);obtain⟨a6,M6,p6,rfl,hM6⟩:=hfin.shape2)
   | ((fail_if_success (have _g:=hb6));refine step_call rfl 164 en_op _ _ rfl [.int .i64 n] rfl (fun v w'=>v=.string S∧Later _ w') (HD.out _) ?_;rintro _ w8 ⟨rfl,l8⟩)
   | ((have _g:=hb6);(refine step_call rfl 164 en_op _ _ rfl [.int .i64 n] rfl (fun v w'=>v=.string S∧Later _ w') (HD.out _) ?_;rintro _ w8 ⟨rfl,l8⟩;have hfin:=hb6.later l8))
   | fail "none")
  all_goals
   have hl9:((zs++[32,40]++t0++[32])++ol).length=zs.length+2+t0.length+1+ol.length:=by simp;omega
   have q9:=HQ.out _ hb9.3
   obtain⟨f0,f1,f2,f3,f4,f5⟩:=HC1.out _ hb9.2
   obtain⟨a9,M9,p9,rfl,hM9⟩:=hb9.shape2
   go_wp2_with fail
   refine (HK1.out _ _ _ _ hb9 (by rw[hl9];omega)).mono ?_
   rintro e wz ⟨vz,rfl,hbz⟩
   have hlz:((zs++[32,40]++t0++[32])++ol++t1).length=zs.length+2+t0.length+1+ol.length+t1.length:=by simp;omega
   obtain⟨az,Mz,pz,rfl,hMz⟩:=hbz.shape2
   go_wp2_with (at_builtin;refine Go.Lib.wpList_append_own_string _ rfl _ _ 41 9 rfl W.heap.size 5 i0 Tryz.underlying41 Tryz.underlying9 hi hz0 hz1 hz2 (.slice az Mz pz) _ _ rfl hbz.1 _ rfl (by rw[hlz];show _+2≤maxLen;unfold maxLen;omega) (by rw[hlz];show _+2≤_;omega) hbz.2.size ?_;intro v7 w7 o7 g7 _;have hb7:=hbz.put o7 (ts:=[32,41]) rfl rfl g7)
   rw[show (zs++[32,40]++t0++[32])++ol++t1++[32,41]=zs++([32,40]++t0++(32::ol)++t1++[32,41]) by simp]at hb7
   exact HF.out _ _ hb7
theorem tailL_app (x y:List (List Int)):tailL (x++y)=tailL x++tailL y:=by
 induction x with
 | nil=>rfl
 | cons a r ih=>rw[List.cons_append,tailL,tailL,ih];simp only[List.append_assoc]
theorem joinL_step (ts:List (List Int)) (j:Nat) (h:j<ts.length):joinL (ts.take (j+1))=joinL (ts.take j)++(if j=0 then [] else [32,44])++ts[j]:=by
 cases ts with
 | nil=>simp at h
 | cons x r =>
  cases j with
  | zero=>simp[joinL,tailL]
  | succ j =>
   have hj:j<r.length:=by simpa using h
   rw[List.take_succ_cons,List.take_succ_cons,joinL,joinL,List.take_add_one,tailL_app,List.getElem?_eq_getElem hj]
   simp[tailL]
theorem joinL_pre (ts:List (List Int)) (j:Nat):(joinL (ts.take j)).length≤(joinL ts).length:=by
 have h:∀ x y:List (List Int),(joinL x).length≤(joinL (x++y)).length:=by
  intro x y
  cases x with
  | nil=>simp[joinL]
  | cons a r=>rw[List.cons_append,joinL,joinL,tailL_app];simp only[List.length_append];omega
 have:=h (ts.take j) (ts.drop j)
 rwa [List.take_append_drop]at this
theorem joinL_at (ts:List (List Int)) (j:Nat) (h:j<ts.length):(joinL (ts.take j)).length+(if j=0 then 0 else 2)+ts[j].length≤(joinL ts).length:=by
 have h1:=joinL_pre ts (j+1)
 rw[joinL_step ts j h]at h1
 by_cases h0:j=0
 ·rw[if_pos h0]at h1 ⊢;simp only[List.length_append,List.length_nil]at h1;omega
 ·rw[if_neg h0]at h1 ⊢;simp only[List.length_append,List.length_cons,List.length_nil]at h1;omega
def Kids (W:World) (sv v1:Value) (ts:List (List Int)):Prop:=∃ a1 cap1,v1=.slice a1 ts.length cap1∧∀ (j:Nat) (hj:j<ts.length),Kid W sv (.slice a1 ts.length cap1) ts.length j ts[j]
theorem say_9 (A W w:World) (v sv v0 v1:Value) (zs:List Int) (n tk tn:Int) (h:Bf A W w v zs) (ts:List (List Int)) (hks:Kids W sv v1 ts) (hts:ts.length≤1000) (hb:zs.length+4+2+(joinL ts).length+2≤1000000) :
  Calls Tryz.prog 135 #[v,.agg #[.int .i64 9,.int .i64 n,.int .i64 tk,.int .i64 tn,v0,v1],sv] w (SayP A W (zs++([32,108,101,110]++[32,40]++joinL ts++[32,41]))):=by
 obtain⟨i0,hi,hz0,hz1,hz2⟩:=info_parts Tryz.info5
 obtain⟨a,cap,rfl⟩:=h.shape
 obtain⟨a1,cap1,rfl,hks⟩:=hks
 obtain⟨w1,hw1⟩:∃ w1,Hid (w1=w.alloc (.cells #[.int .i64 9,.int .i64 n,.int .i64 tk,.int .i64 tn,v0,.slice a1 ts.length cap1] 96)):=⟨_,rfl⟩
 have hA:Bf A W w1 (.slice a zs.length cap) zs:=by rw[hw1.out];exact h.alloc _
 have hbx:BxT w.heap.size w1 [.int .i64 9,.int .i64 n,.int .i64 tk,.int .i64 tn,v0,.slice a1 ts.length cap1] 96:=by rw[hw1.out];exact BxT.new w _ _
 have HF:Hid (∀ v' w',Bf w1 W w' v' (zs++([32,108,101,110]++[32,40]++joinL ts++[32,41]))→SayP A W (zs++([32,108,101,110]++[32,40]++joinL ts++[32,41])) (.returned v') w'):=fun v' w' h=>⟨v',rfl,h.back hA.3⟩
 have hA1:=hA.from
 clear hA h
 generalize hQ:SayP A W (zs++([32,108,101,110]++[32,40]++joinL ts++[32,41]))=Q
 rw[hQ]at HF
 have HQ:Hid (∀ w',K8 w1 w'→w'.cell? ⟨w.heap.size,5,none⟩=some (.slice a1 ts.length cap1)):=hbx.at (by decide) 5 _ rfl
 have HKs:Hid (∀ (j:Nat) (hj:j<ts.length),Kid W sv (.slice a1 ts.length cap1) ts.length j ts[j]):=hks
 have hl1:zs.length=zs.length:=rfl
 clear hbx hks
 have hw1':=hw1
 rw[hw1.out]at hA1
 go_enter Tryz.func135,Tryz.ntmps135
 go_wp2_with (first|((have _g:=hbH);(at_builtin;refine Go.Lib.wpList_append_own_string _ rfl _ _ 41 9 rfl W.heap.size 5 i0 Tryz.underlying41 Tryz.underlying9 hi hz0 hz1 hz2 (.slice aH MH pH) _ _ rfl hbH.1 _ rfl (by rw[hlH];show _+2≤maxLen;unfold maxLen;omega) (by rw[hlH];show _+2≤_;omega) hbH.2.size ?_;intro v5 w5 o5 g5 _;have hb5:=hbH.put o5 (ts:=[32,40]) rfl rfl g5;have hl5:((zs++[32,108,101,110])++[32,40]).length=zs.length+4+2:=(by rw[List.length_append,hlH];rfl);obtain⟨a5,M5,p5,rfl,hM5⟩:=hb5.shape2))|(at_builtin;refine Go.Lib.wpList_append_own_string _ rfl _ _ 41 9 rfl W.heap.size 5 i0 Tryz.underlying41 Tryz.underlying9 hi hz0 hz1 hz2 (.slice a zs.length cap) _ _ rfl hA1.1 _ rfl (by rw[hl1];show _+4≤maxLen;unfold maxLen;omega) (by rw[hl1];show _+4≤_;omega) hA1.2.size ?_;intro v3 w3 o3 g3 _;have hb3:=hA1.put o3 (ts:=[32,108,101,110]) rfl rfl g3;have hbH:Bf w1 W w3 v3 (zs++[32,108,101,110]):=(by rw[hw1'.out];exact hb3);have hlH:(zs++[32,108,101,110]).length=zs.length+4:=(by simp);obtain⟨aH,MH,pH,rfl,hMH⟩:=hbH.shape2))
 go_loopw [0,7] (fun b i wr=>∃ j:Nat,i=.int .i64 (j:Int)∧j≤ts.length∧Bf w1 W wr b ((zs++[32,108,101,110])++[32,40]++joinL (ts.take j))) (fun _ i _=>ts.length - (intOf i).toNat)
 case atStart=>exact⟨0,rfl,Nat.zero_le _,by simpa[joinL] using hb5⟩
 case round =>
  obtain⟨j,rfl,hj,hbr⟩:=hrel
  have qr:=HQ.out _ hbr.3
  obtain⟨ar,Mr,pr,rfl,hMr⟩:=hbr.shape2
  by_cases hlt:j<ts.length
  ·obtain⟨_,g,off,cap',k,n',tk',tn',y0,y1,e1,_,hcl,hcall⟩:=HKs.out j hlt
   have HCL:Hid (∀ w',Later W w'→w'.cell? ⟨g,off+j*6,none⟩=some (.int .i64 k)∧w'.cell? ⟨g,off+j*6+1,none⟩=some (.int .i64 n')∧w'.cell? ⟨g,off+j*6+2,none⟩=some (.int .i64 tk')∧w'.cell? ⟨g,off+j*6+3,none⟩=some (.int .i64 tn')∧w'.cell? ⟨g,off+j*6+4,none⟩=some y0∧w'.cell? ⟨g,off+j*6+5,none⟩=some y1):=hcl
   cases e1
   have hat:=joinL_at ts j hlt
   have i1:(j:Int)<(ts.length:Int):=by omega
   have hlr:((zs++[32,108,101,110])++[32,40]++joinL (ts.take j)).length=zs.length+4+2+(joinL (ts.take j)).length:=by rw[List.length_append,hl5]
   clear hcl
   by_cases h0:j=0
   ·rw[if_pos h0]at hat
    have h0':Hid (j=0):=h0
    obtain⟨d0,d1,d2,d3,d4,d5⟩:=HCL.out _ hbr.2
    have i2:¬ (0:Int)<(j:Int):=by omega
    clear h0
    go_wp2_with fail
    refine (hcall _ _ _ _ hbr (by rw[hlr];omega)).mono ?_
    rintro e wn ⟨vn,rfl,hbn⟩
    have hbn':Bf w1 W wn vn ((zs++[32,108,101,110])++[32,40]++joinL (ts.take (j+1))):=by rw[joinL_step ts j hlt,if_pos h0'.out];simpa only[List.append_assoc,List.nil_append,List.append_nil] using hbn
    go_wp2_with fail
    go_roundw
    case rel=>exact⟨j+1,by go_num,by omega,hbn'⟩
    case measure=>simp[intOf];omega
   ·rw[if_neg h0]at hat
    have i2:(0:Int)<(j:Int):=by omega
    go_wp2_with (at_builtin;refine Go.Lib.wpList_append_own_string _ rfl _ _ 41 9 rfl W.heap.size 5 i0 Tryz.underlying41 Tryz.underlying9 hi hz0 hz1 hz2 (.slice ar Mr pr) _ _ rfl hbr.1 _ rfl (by rw[hlr];show _+2≤maxLen;unfold maxLen;omega) (by rw[hlr];show _+2≤_;omega) hbr.2.size ?_;intro v8 w8 o8 g8 _;have hb8:=hbr.put o8 (ts:=[32,44]) rfl rfl g8;have q8:=HQ.out _ hb8.3;obtain⟨d0,d1,d2,d3,d4,d5⟩:=HCL.out _ hb8.2;have hl8:((zs++[32,108,101,110])++[32,40]++joinL (ts.take j)++[32,44]).length=zs.length+4+2+(joinL (ts.take j)).length+2:=(by rw[List.length_append,hlr];rfl);obtain⟨a8,M8,p8,rfl,hM8⟩:=hb8.shape2)
    refine (hcall _ _ _ _ hb8 (by rw[hl8];omega)).mono ?_
    rintro e wn ⟨vn,rfl,hbn⟩
    have hbn':Bf w1 W wn vn ((zs++[32,108,101,110])++[32,40]++joinL (ts.take (j+1))):=by rw[joinL_step ts j hlt,if_neg h0];simpa only[List.append_assoc,List.nil_append,List.append_nil] using hbn
    go_wp2_with fail
    go_roundw
    case rel=>exact⟨j+1,by go_num,by omega,hbn'⟩
    case measure=>simp[intOf];omega
  ·have hje:j=ts.length:=by omega
   have i1:¬ (j:Int)<(ts.length:Int):=by omega
   have hte:ts.take j=ts:=by rw[hje];exact List.take_length
   have hlr:((zs++[32,108,101,110])++[32,40]++joinL (ts.take j)).length=zs.length+4+2+(joinL (ts.take j)).length:=by rw[List.length_append,hl5]
   rw[hte]at hbr hlr hMr
   go_wp2_with (at_builtin;refine Go.Lib.wpList_append_own_string _ rfl _ _ 41 9 rfl W.heap.size 5 i0 Tryz.underlying41 Tryz.underlying9 hi hz0 hz1 hz2 (.slice ar Mr pr) _ _ rfl hbr.1 _ rfl (by rw[hlr];show _+2≤maxLen;unfold maxLen;omega) (by rw[hlr];show _+2≤_;omega) hbr.2.size ?_;intro v9 w9 o9 g9 _;have hb9:=hbr.put o9 (ts:=[32,41]) rfl rfl g9)
   rw[show (zs++[32,108,101,110])++[32,40]++joinL ts++[32,41]=zs++([32,108,101,110]++[32,40]++joinL ts++[32,41]) by simp only[List.append_assoc]]at hb9
   exact HF.out _ _ hb9
theorem say_12 (A W w:World) (v sv v0 v1:Value) (zs:List Int) (n tk tn:Int) (h:Bf A W w v zs) (ts:List (List Int)) (hks:Kids W sv v1 ts) (hts:ts.length≤1000) (hb:zs.length+4+2+(joinL ts).length+2≤1000000) :
  Calls Tryz.prog 135 #[v,.agg #[.int .i64 12,.int .i64 n,.int .i64 tk,.int .i64 tn,v0,v1],sv] w (SayP A W (zs++([32,105,110,116]++[32,40]++joinL ts++[32,41]))):=by
 obtain⟨i0,hi,hz0,hz1,hz2⟩:=info_parts Tryz.info5
 obtain⟨a,cap,rfl⟩:=h.shape
 obtain⟨a1,cap1,rfl,hks⟩:=hks
 obtain⟨w1,hw1⟩:∃ w1,Hid (w1=w.alloc (.cells #[.int .i64 12,.int .i64 n,.int .i64 tk,.int .i64 tn,v0,.slice a1 ts.length cap1] 96)):=⟨_,rfl⟩
 have hA:Bf A W w1 (.slice a zs.length cap) zs:=by rw[hw1.out];exact h.alloc _
 have hbx:BxT w.heap.size w1 [.int .i64 12,.int .i64 n,.int .i64 tk,.int .i64 tn,v0,.slice a1 ts.length cap1] 96:=by rw[hw1.out];exact BxT.new w _ _
 have HF:Hid (∀ v' w',Bf w1 W w' v' (zs++([32,105,110,116]++[32,40]++joinL ts++[32,41]))→SayP A W (zs++([32,105,110,116]++[32,40]++joinL ts++[32,41])) (.returned v') w'):=fun v' w' h=>⟨v',rfl,h.back hA.3⟩
 have hA1:=hA.from
 clear hA h
 generalize hQ:SayP A W (zs++([32,105,110,116]++[32,40]++joinL ts++[32,41]))=Q
 rw[hQ]at HF
 have HQ:Hid (∀ w',K8 w1 w'→w'.cell? ⟨w.heap.size,5,none⟩=some (.slice a1 ts.length cap1)):=hbx.at (by decide) 5 _ rfl
 have HKs:Hid (∀ (j:Nat) (hj:j<ts.length),Kid W sv (.slice a1 ts.length cap1) ts.length j ts[j]):=hks
 have hl1:zs.length=zs.length:=rfl
 clear hbx hks
 have hw1':=hw1
 rw[hw1.out]at hA1
 go_enter Tryz.func135,Tryz.ntmps135
 go_wp2_with (first|((have _g:=hbH);(at_builtin;refine Go.Lib.wpList_append_own_string _ rfl _ _ 41 9 rfl W.heap.size 5 i0 Tryz.underlying41 Tryz.underlying9 hi hz0 hz1 hz2 (.slice aH MH pH) _ _ rfl hbH.1 _ rfl (by rw[hlH];show _+2≤maxLen;unfold maxLen;omega) (by rw[hlH];show _+2≤_;omega) hbH.2.size ?_;intro v5 w5 o5 g5 _;have hb5:=hbH.put o5 (ts:=[32,40]) rfl rfl g5;have hl5:((zs++[32,105,110,116])++[32,40]).length=zs.length+4+2:=(by rw[List.length_append,hlH];rfl);obtain⟨a5,M5,p5,rfl,hM5⟩:=hb5.shape2))|(at_builtin;refine Go.Lib.wpList_append_own_string _ rfl _ _ 41 9 rfl W.heap.size 5 i0 Tryz.underlying41 Tryz.underlying9 hi hz0 hz1 hz2 (.slice a zs.length cap) _ _ rfl hA1.1 _ rfl (by rw[hl1];show _+4≤maxLen;unfold maxLen;omega) (by rw[hl1];show _+4≤_;omega) hA1.2.size ?_;intro v3 w3 o3 g3 _;have hb3:=hA1.put o3 (ts:=[32,105,110,116]) rfl rfl g3;have hbH:Bf w1 W w3 v3 (zs++[32,105,110,116]):=(by rw[hw1'.out];exact hb3);have hlH:(zs++[32,105,110,116]).length=zs.length+4:=(by simp);obtain⟨aH,MH,pH,rfl,hMH⟩:=hbH.shape2))
 go_loopw [0,7] (fun b i wr=>∃ j:Nat,i=.int .i64 (j:Int)∧j≤ts.length∧Bf w1 W wr b ((zs++[32,105,110,116])++[32,40]++joinL (ts.take j))) (fun _ i _=>ts.length - (intOf i).toNat)
 case atStart=>exact⟨0,rfl,Nat.zero_le _,by simpa[joinL] using hb5⟩
 case round =>
  obtain⟨j,rfl,hj,hbr⟩:=hrel
  have qr:=HQ.out _ hbr.3
  obtain⟨ar,Mr,pr,rfl,hMr⟩:=hbr.shape2
  by_cases hlt:j<ts.length
  ·obtain⟨_,g,off,cap',k,n',tk',tn',y0,y1,e1,_,hcl,hcall⟩:=HKs.out j hlt
   have HCL:Hid (∀ w',Later W w'→w'.cell? ⟨g,off+j*6,none⟩=some (.int .i64 k)∧w'.cell? ⟨g,off+j*6+1,none⟩=some (.int .i64 n')∧w'.cell? ⟨g,off+j*6+2,none⟩=some (.int .i64 tk')∧w'.cell? ⟨g,off+j*6+3,none⟩=some (.int .i64 tn')∧w'.cell? ⟨g,off+j*6+4,none⟩=some y0∧w'.cell? ⟨g,off+j*6+5,none⟩=some y1):=hcl
   cases e1
   have hat:=joinL_at ts j hlt
   have i1:(j:Int)<(ts.length:Int):=by omega
   have hlr:((zs++[32,105,110,116])++[32,40]++joinL (ts.take j)).length=zs.length+4+2+(joinL (ts.take j)).length:=by rw[List.length_append,hl5]
   clear hcl
   by_cases h0:j=0
   ·rw[if_pos h0]at hat
    have h0':Hid (j=0):=h0
    obtain⟨d0,d1,d2,d3,d4,d5⟩:=HCL.out _ hbr.2
    have i2:¬ (0:Int)<(j:Int):=by omega
    clear h0
    go_wp2_with fail
    refine (hcall _ _ _ _ hbr (by rw[hlr];omega)).mono ?_
    rintro e wn ⟨vn,rfl,hbn⟩
    have hbn':Bf w1 W wn vn ((zs++[32,105,110,116])++[32,40]++joinL (ts.take (j+1))):=by rw[joinL_step ts j hlt,if_pos h0'.out];simpa only[List.append_assoc,List.nil_append,List.append_nil] using hbn
    go_wp2_with fail
    go_roundw
    case rel=>exact⟨j+1,by go_num,by omega,hbn'⟩
    case measure=>simp[intOf];omega
   ·rw[if_neg h0]at hat
    have i2:(0:Int)<(j:Int):=by omega
    go_wp2_with (at_builtin;refine Go.Lib.wpList_append_own_string _ rfl _ _ 41 9 rfl W.heap.size 5 i0 Tryz.underlying41 Tryz.underlying9 hi hz0 hz1 hz2 (.slice ar Mr pr) _ _ rfl hbr.1 _ rfl (by rw[hlr];show _+2≤maxLen;unfold maxLen;omega) (by rw[hlr];show _+2≤_;omega) hbr.2.size ?_;intro v8 w8 o8 g8 _;have hb8:=hbr.put o8 (ts:=[32,44]) rfl rfl g8;have q8:=HQ.out _ hb8.3;obtain⟨d0,d1,d2,d3,d4,d5⟩:=HCL.out _ hb8.2;have hl8:((zs++[32,105,110,116])++[32,40]++joinL (ts.take j)++[32,44]).length=zs.length+4+2+(joinL (ts.take j)).length+2:=(by rw[List.length_append,hlr];rfl);obtain⟨a8,M8,p8,rfl,hM8⟩:=hb8.shape2)
    refine (hcall _ _ _ _ hb8 (by rw[hl8];omega)).mono ?_
    rintro e wn ⟨vn,rfl,hbn⟩
    have hbn':Bf w1 W wn vn ((zs++[32,105,110,116])++[32,40]++joinL (ts.take (j+1))):=by rw[joinL_step ts j hlt,if_neg h0];simpa only[List.append_assoc,List.nil_append,List.append_nil] using hbn
    go_wp2_with fail
    go_roundw
    case rel=>exact⟨j+1,by go_num,by omega,hbn'⟩
    case measure=>simp[intOf];omega
  ·have hje:j=ts.length:=by omega
   have i1:¬ (j:Int)<(ts.length:Int):=by omega
   have hte:ts.take j=ts:=by rw[hje];exact List.take_length
   have hlr:((zs++[32,105,110,116])++[32,40]++joinL (ts.take j)).length=zs.length+4+2+(joinL (ts.take j)).length:=by rw[List.length_append,hl5]
   rw[hte]at hbr hlr hMr
   go_wp2_with (at_builtin;refine Go.Lib.wpList_append_own_string _ rfl _ _ 41 9 rfl W.heap.size 5 i0 Tryz.underlying41 Tryz.underlying9 hi hz0 hz1 hz2 (.slice ar Mr pr) _ _ rfl hbr.1 _ rfl (by rw[hlr];show _+2≤maxLen;unfold maxLen;omega) (by rw[hlr];show _+2≤_;omega) hbr.2.size ?_;intro v9 w9 o9 g9 _;have hb9:=hbr.put o9 (ts:=[32,41]) rfl rfl g9)
   rw[show (zs++[32,105,110,116])++[32,40]++joinL ts++[32,41]=zs++([32,105,110,116]++[32,40]++joinL ts++[32,41]) by simp only[List.append_assoc]]at hb9
   exact HF.out _ _ hb9
theorem say_13 (A W w:World) (v sv v0 v1:Value) (zs:List Int) (n tk tn:Int) (h:Bf A W w v zs) (ts:List (List Int)) (hks:Kids W sv v1 ts) (hts:ts.length≤1000) (hb:zs.length+6+2+(joinL ts).length+2≤1000000) :
  Calls Tryz.prog 135 #[v,.agg #[.int .i64 13,.int .i64 n,.int .i64 tk,.int .i64 tn,v0,v1],sv] w (SayP A W (zs++([32,102,108,111,97,116]++[32,40]++joinL ts++[32,41]))):=by
 obtain⟨i0,hi,hz0,hz1,hz2⟩:=info_parts Tryz.info5
 obtain⟨a,cap,rfl⟩:=h.shape
 obtain⟨a1,cap1,rfl,hks⟩:=hks
 obtain⟨w1,hw1⟩:∃ w1,Hid (w1=w.alloc (.cells #[.int .i64 13,.int .i64 n,.int .i64 tk,.int .i64 tn,v0,.slice a1 ts.length cap1] 96)):=⟨_,rfl⟩
 have hA:Bf A W w1 (.slice a zs.length cap) zs:=by rw[hw1.out];exact h.alloc _
 have hbx:BxT w.heap.size w1 [.int .i64 13,.int .i64 n,.int .i64 tk,.int .i64 tn,v0,.slice a1 ts.length cap1] 96:=by rw[hw1.out];exact BxT.new w _ _
 have HF:Hid (∀ v' w',Bf w1 W w' v' (zs++([32,102,108,111,97,116]++[32,40]++joinL ts++[32,41]))→SayP A W (zs++([32,102,108,111,97,116]++[32,40]++joinL ts++[32,41])) (.returned v') w'):=fun v' w' h=>⟨v',rfl,h.back hA.3⟩
 have hA1:=hA.from
 clear hA h
 generalize hQ:SayP A W (zs++([32,102,108,111,97,116]++[32,40]++joinL ts++[32,41]))=Q
 rw[hQ]at HF
 have HQ:Hid (∀ w',K8 w1 w'→w'.cell? ⟨w.heap.size,5,none⟩=some (.slice a1 ts.length cap1)):=hbx.at (by decide) 5 _ rfl
 have HKs:Hid (∀ (j:Nat) (hj:j<ts.length),Kid W sv (.slice a1 ts.length cap1) ts.length j ts[j]):=hks
 have hl1:zs.length=zs.length:=rfl
 clear hbx hks
 have hw1':=hw1
 rw[hw1.out]at hA1
 go_enter Tryz.func135,Tryz.ntmps135
 go_wp2_with (first|((have _g:=hbH);(at_builtin;refine Go.Lib.wpList_append_own_string _ rfl _ _ 41 9 rfl W.heap.size 5 i0 Tryz.underlying41 Tryz.underlying9 hi hz0 hz1 hz2 (.slice aH MH pH) _ _ rfl hbH.1 _ rfl (by rw[hlH];show _+2≤maxLen;unfold maxLen;omega) (by rw[hlH];show _+2≤_;omega) hbH.2.size ?_;intro v5 w5 o5 g5 _;have hb5:=hbH.put o5 (ts:=[32,40]) rfl rfl g5;have hl5:((zs++[32,102,108,111,97,116])++[32,40]).length=zs.length+6+2:=(by rw[List.length_append,hlH];rfl);obtain⟨a5,M5,p5,rfl,hM5⟩:=hb5.shape2))|(at_builtin;refine Go.Lib.wpList_append_own_string _ rfl _ _ 41 9 rfl W.heap.size 5 i0 Tryz.underlying41 Tryz.underlying9 hi hz0 hz1 hz2 (.slice a zs.length cap) _ _ rfl hA1.1 _ rfl (by rw[hl1];show _+6≤maxLen;unfold maxLen;omega) (by rw[hl1];show _+6≤_;omega) hA1.2.size ?_;intro v3 w3 o3 g3 _;have hb3:=hA1.put o3 (ts:=[32,102,108,111,97,116]) rfl rfl g3;have hbH:Bf w1 W w3 v3 (zs++[32,102,108,111,97,116]):=(by rw[hw1'.out];exact hb3);have hlH:(zs++[32,102,108,111,97,116]).length=zs.length+6:=(by simp);obtain⟨aH,MH,pH,rfl,hMH⟩:=hbH.shape2))
 go_loopw [0,7] (fun b i wr=>∃ j:Nat,i=.int .i64 (j:Int)∧j≤ts.length∧Bf w1 W wr b ((zs++[32,102,108,111,97,116])++[32,40]++joinL (ts.take j))) (fun _ i _=>ts.length - (intOf i).toNat)
 case atStart=>exact⟨0,rfl,Nat.zero_le _,by simpa[joinL] using hb5⟩
 case round =>
  obtain⟨j,rfl,hj,hbr⟩:=hrel
  have qr:=HQ.out _ hbr.3
  obtain⟨ar,Mr,pr,rfl,hMr⟩:=hbr.shape2
  by_cases hlt:j<ts.length
  ·obtain⟨_,g,off,cap',k,n',tk',tn',y0,y1,e1,_,hcl,hcall⟩:=HKs.out j hlt
   have HCL:Hid (∀ w',Later W w'→w'.cell? ⟨g,off+j*6,none⟩=some (.int .i64 k)∧w'.cell? ⟨g,off+j*6+1,none⟩=some (.int .i64 n')∧w'.cell? ⟨g,off+j*6+2,none⟩=some (.int .i64 tk')∧w'.cell? ⟨g,off+j*6+3,none⟩=some (.int .i64 tn')∧w'.cell? ⟨g,off+j*6+4,none⟩=some y0∧w'.cell? ⟨g,off+j*6+5,none⟩=some y1):=hcl
   cases e1
   have hat:=joinL_at ts j hlt
   have i1:(j:Int)<(ts.length:Int):=by omega
   have hlr:((zs++[32,102,108,111,97,116])++[32,40]++joinL (ts.take j)).length=zs.length+6+2+(joinL (ts.take j)).length:=by rw[List.length_append,hl5]
   clear hcl
   by_cases h0:j=0
   ·rw[if_pos h0]at hat
    have h0':Hid (j=0):=h0
    obtain⟨d0,d1,d2,d3,d4,d5⟩:=HCL.out _ hbr.2
    have i2:¬ (0:Int)<(j:Int):=by omega
    clear h0
    go_wp2_with fail
    refine (hcall _ _ _ _ hbr (by rw[hlr];omega)).mono ?_
    rintro e wn ⟨vn,rfl,hbn⟩
    have hbn':Bf w1 W wn vn ((zs++[32,102,108,111,97,116])++[32,40]++joinL (ts.take (j+1))):=by rw[joinL_step ts j hlt,if_pos h0'.out];simpa only[List.append_assoc,List.nil_append,List.append_nil] using hbn
    go_wp2_with fail
    go_roundw
    case rel=>exact⟨j+1,by go_num,by omega,hbn'⟩
    case measure=>simp[intOf];omega
   ·rw[if_neg h0]at hat
    have i2:(0:Int)<(j:Int):=by omega
    go_wp2_with (at_builtin;refine Go.Lib.wpList_append_own_string _ rfl _ _ 41 9 rfl W.heap.size 5 i0 Tryz.underlying41 Tryz.underlying9 hi hz0 hz1 hz2 (.slice ar Mr pr) _ _ rfl hbr.1 _ rfl (by rw[hlr];show _+2≤maxLen;unfold maxLen;omega) (by rw[hlr];show _+2≤_;omega) hbr.2.size ?_;intro v8 w8 o8 g8 _;have hb8:=hbr.put o8 (ts:=[32,44]) rfl rfl g8;have q8:=HQ.out _ hb8.3;obtain⟨d0,d1,d2,d3,d4,d5⟩:=HCL.out _ hb8.2;have hl8:((zs++[32,102,108,111,97,116])++[32,40]++joinL (ts.take j)++[32,44]).length=zs.length+6+2+(joinL (ts.take j)).length+2:=(by rw[List.length_append,hlr];rfl);obtain⟨a8,M8,p8,rfl,hM8⟩:=hb8.shape2)
    refine (hcall _ _ _ _ hb8 (by rw[hl8];omega)).mono ?_
    rintro e wn ⟨vn,rfl,hbn⟩
    have hbn':Bf w1 W wn vn ((zs++[32,102,108,111,97,116])++[32,40]++joinL (ts.take (j+1))):=by rw[joinL_step ts j hlt,if_neg h0];simpa only[List.append_assoc,List.nil_append,List.append_nil] using hbn
    go_wp2_with fail
    go_roundw
    case rel=>exact⟨j+1,by go_num,by omega,hbn'⟩
    case measure=>simp[intOf];omega
  ·have hje:j=ts.length:=by omega
   have i1:¬ (j:Int)<(ts.length:Int):=by omega
   have hte:ts.take j=ts:=by rw[hje];exact List.take_length
   have hlr:((zs++[32,102,108,111,97,116])++[32,40]++joinL (ts.take j)).length=zs.length+6+2+(joinL (ts.take j)).length:=by rw[List.length_append,hl5]
   rw[hte]at hbr hlr hMr
   go_wp2_with (at_builtin;refine Go.Lib.wpList_append_own_string _ rfl _ _ 41 9 rfl W.heap.size 5 i0 Tryz.underlying41 Tryz.underlying9 hi hz0 hz1 hz2 (.slice ar Mr pr) _ _ rfl hbr.1 _ rfl (by rw[hlr];show _+2≤maxLen;unfold maxLen;omega) (by rw[hlr];show _+2≤_;omega) hbr.2.size ?_;intro v9 w9 o9 g9 _;have hb9:=hbr.put o9 (ts:=[32,41]) rfl rfl g9)
   rw[show (zs++[32,102,108,111,97,116])++[32,40]++joinL ts++[32,41]=zs++([32,102,108,111,97,116]++[32,40]++joinL ts++[32,41]) by simp only[List.append_assoc]]at hb9
   exact HF.out _ _ hb9
theorem say_6 (A W w:World) (v sv v0 v1:Value) (zs:List Int) (n tk tn:Int) (h:Bf A W w v zs) (ts:List (List Int)) (nm:List Int) (hks:Kids W sv v1 ts) (hts:ts.length≤1000) (hv0:RdN W v0 nm) (hn1:1≤nm.length) (hb:zs.length+1+nm.length+2+(joinL ts).length+2≤1000000) :
  Calls Tryz.prog 135 #[v,.agg #[.int .i64 6,.int .i64 n,.int .i64 tk,.int .i64 tn,v0,v1],sv] w (SayP A W (zs++([32]++nm++[32,40]++joinL ts++[32,41]))):=by
 obtain⟨i0,hi,hz0,hz1,hz2⟩:=info_parts Tryz.info5
 obtain⟨a,cap,rfl⟩:=h.shape
 obtain⟨a1,cap1,rfl,hks⟩:=hks
 obtain⟨g0,off0,q,rfl,hg0,hcells⟩:=nm_cells hv0 hn1
 obtain⟨w1,hw1⟩:∃ w1,Hid (w1=w.alloc (.cells #[.int .i64 6,.int .i64 n,.int .i64 tk,.int .i64 tn,.slice (some ⟨g0,off0,none⟩) nm.length q,.slice a1 ts.length cap1] 96)):=⟨_,rfl⟩
 have hA:Bf A W w1 (.slice a zs.length cap) zs:=by rw[hw1.out];exact h.alloc _
 have hbx:BxT w.heap.size w1 [.int .i64 6,.int .i64 n,.int .i64 tk,.int .i64 tn,.slice (some ⟨g0,off0,none⟩) nm.length q,.slice a1 ts.length cap1] 96:=by rw[hw1.out];exact BxT.new w _ _
 have HF:Hid (∀ v' w',Bf w1 W w' v' (zs++([32]++nm++[32,40]++joinL ts++[32,41]))→SayP A W (zs++([32]++nm++[32,40]++joinL ts++[32,41])) (.returned v') w'):=fun v' w' h=>⟨v',rfl,h.back hA.3⟩
 have hA1:=hA.from
 clear hA h
 generalize hQ:SayP A W (zs++([32]++nm++[32,40]++joinL ts++[32,41]))=Q
 rw[hQ]at HF
 have HQ:Hid (∀ w',K8 w1 w'→w'.cell? ⟨w.heap.size,5,none⟩=some (.slice a1 ts.length cap1)):=hbx.at (by decide) 5 _ rfl
 have HKs:Hid (∀ (j:Nat) (hj:j<ts.length),Kid W sv (.slice a1 ts.length cap1) ts.length j ts[j]):=hks
 have HQ4:Hid (∀ w',K8 w1 w'→w'.cell? ⟨w.heap.size,4,none⟩=some (.slice (some ⟨g0,off0,none⟩) nm.length q)):=hbx.at (by decide) 4 _ rfl
 have HC:Hid (∀ w',Later W w'→∀ j u,(nm.map (Value.int .u8))[j]?=some u→w'.cell? ((⟨g0,off0,none⟩:Addr).add j)=some u):=hcells
 have q1:=HQ4.out w1.drew (Later.drew _).k8
 have q1':=HQ4.out (w1.alloc (.cells #[.int .u8 32] 5)).drew ((later1 _ _).trans (Later.drew _)).k8
 have hB1:=(hA1.alloc (.cells #[.int .u8 32] 5)).later (Later.drew _)
 have hS1:=Later.ones (Later.drew (w1.alloc (.cells #[.int .u8 32] 5))) (g:=w1.heap.size) (by simp) (new_oneb w1 32)
 obtain⟨X,hX⟩:∃ X,Hid (X=nm.map (Value.int .u8)):=⟨_,rfl⟩
 have hXl:X.length=nm.length:=by rw[hX.out];simp
 have hX1:∀ u∈X,u.oneCell'=true:=by rw[hX.out];exact one_all nm
 rw[←hX.out]at HC
 clear hbx hcells hv0 hks
 go_enter Tryz.func135,Tryz.ntmps135
 go_wp2_with fail
 rw[←hw1.out]
 go_region_law (first
  | (have _g:=hbf3;(refine step_append_own2 rfl _ _ 41 rfl W.heap.size 5 i0 (.int .u8 0) 1 1 Tryz.underlying41 hi hz0 hz1 hz2 rfl (by decide) (.slice a3 M3 p3) _ _ rfl hbf3.1 ⟨g0,off0,none⟩ nm.length q X rfl (by rw[hXl,Nat.mul_one]) (HC.out _ hbf3.2) hX1 (by rw[hl3];unfold maxLen;omega) (by rw[hl3];omega) hbf3.2.size ?_;intro v5 w5 o5 g5;have hbH:=hbf3.put o5 rfl hX.out g5))
  | (refine step_append_own2 rfl _ _ 41 rfl W.heap.size 5 i0 (.int .u8 0) 1 1 Tryz.underlying41 hi hz0 hz1 hz2 rfl (by decide) (.slice a zs.length cap) _ _ rfl hB1.1 ⟨_,0,none⟩ 1 1 [.int .u8 32] rfl rfl hS1 (by simp[Value.oneCell']) (by unfold maxLen;omega) (by omega) hB1.2.size ?_;intro v3 w3 o3 g3;have hbf3:Bf w1 W w3 v3 (zs++[32]):=hB1.put o3 rfl rfl g3;have hl3:(zs++[32]).length=zs.length+1:=(by simp);have q3:=HQ4.out _ hbf3.3;obtain⟨a3,M3,p3,rfl,hM3⟩:=hbf3.shape2)
  | fail "none")
 all_goals
  have hlH:(zs++[32]++nm).length=zs.length+1+nm.length:=by simp;omega
  obtain⟨aH,MH,pH,rfl,hMH⟩:=hbH.shape2
  go_wp2_with (at_builtin;refine Go.Lib.wpList_append_own_string _ rfl _ _ 41 9 rfl W.heap.size 5 i0 Tryz.underlying41 Tryz.underlying9 hi hz0 hz1 hz2 (.slice aH MH pH) _ _ rfl hbH.1 _ rfl (by rw[hlH];show _+2≤maxLen;unfold maxLen;omega) (by rw[hlH];show _+2≤_;omega) hbH.2.size ?_;intro v5 w5 o5 g5 _;have hb5:=hbH.put o5 (ts:=[32,40]) rfl rfl g5;have hl5:((zs++[32]++nm)++[32,40]).length=zs.length+1+nm.length+2:=(by rw[List.length_append,hlH];rfl);obtain⟨a5,M5,p5,rfl,hM5⟩:=hb5.shape2)
  go_loopw [0,7] (fun b i wr=>∃ j:Nat,i=.int .i64 (j:Int)∧j≤ts.length∧Bf w1 W wr b ((zs++[32]++nm)++[32,40]++joinL (ts.take j))) (fun _ i _=>ts.length - (intOf i).toNat)
  case atStart=>exact⟨0,rfl,Nat.zero_le _,by simpa[joinL] using hb5⟩
  case round =>
   obtain⟨j,rfl,hj,hbr⟩:=hrel
   have qr:=HQ.out _ hbr.3
   obtain⟨ar,Mr,pr,rfl,hMr⟩:=hbr.shape2
   by_cases hlt:j<ts.length
   ·obtain⟨_,g,off,cap',k,n',tk',tn',y0,y1,e1,_,hcl,hcall⟩:=HKs.out j hlt
    have HCL:Hid (∀ w',Later W w'→w'.cell? ⟨g,off+j*6,none⟩=some (.int .i64 k)∧w'.cell? ⟨g,off+j*6+1,none⟩=some (.int .i64 n')∧w'.cell? ⟨g,off+j*6+2,none⟩=some (.int .i64 tk')∧w'.cell? ⟨g,off+j*6+3,none⟩=some (.int .i64 tn')∧w'.cell? ⟨g,off+j*6+4,none⟩=some y0∧w'.cell? ⟨g,off+j*6+5,none⟩=some y1):=hcl
    cases e1
    have hat:=joinL_at ts j hlt
    have i1:(j:Int)<(ts.length:Int):=by omega
    have hlr:((zs++[32]++nm)++[32,40]++joinL (ts.take j)).length=zs.length+1+nm.length+2+(joinL (ts.take j)).length:=by rw[List.length_append,hl5]
    clear hcl
    by_cases h0:j=0
    ·rw[if_pos h0]at hat
     have h0':Hid (j=0):=h0
     obtain⟨d0,d1,d2,d3,d4,d5⟩:=HCL.out _ hbr.2
     have i2:¬ (0:Int)<(j:Int):=by omega
     clear h0
     go_wp2_with fail
     refine (hcall _ _ _ _ hbr (by rw[hlr];omega)).mono ?_
     rintro e wn ⟨vn,rfl,hbn⟩
     have hbn':Bf w1 W wn vn ((zs++[32]++nm)++[32,40]++joinL (ts.take (j+1))):=by rw[joinL_step ts j hlt,if_pos h0'.out];simpa only[List.append_assoc,List.nil_append,List.append_nil] using hbn
     go_wp2_with fail
     go_roundw
     case rel=>exact⟨j+1,by go_num,by omega,hbn'⟩
     case measure=>simp[intOf];omega
    ·rw[if_neg h0]at hat
     have i2:(0:Int)<(j:Int):=by omega
     go_wp2_with (at_builtin;refine Go.Lib.wpList_append_own_string _ rfl _ _ 41 9 rfl W.heap.size 5 i0 Tryz.underlying41 Tryz.underlying9 hi hz0 hz1 hz2 (.slice ar Mr pr) _ _ rfl hbr.1 _ rfl (by rw[hlr];show _+2≤maxLen;unfold maxLen;omega) (by rw[hlr];show _+2≤_;omega) hbr.2.size ?_;intro v8 w8 o8 g8 _;have hb8:=hbr.put o8 (ts:=[32,44]) rfl rfl g8;have q8:=HQ.out _ hb8.3;obtain⟨d0,d1,d2,d3,d4,d5⟩:=HCL.out _ hb8.2;have hl8:((zs++[32]++nm)++[32,40]++joinL (ts.take j)++[32,44]).length=zs.length+1+nm.length+2+(joinL (ts.take j)).length+2:=(by rw[List.length_append,hlr];rfl);obtain⟨a8,M8,p8,rfl,hM8⟩:=hb8.shape2)
     refine (hcall _ _ _ _ hb8 (by rw[hl8];omega)).mono ?_
     rintro e wn ⟨vn,rfl,hbn⟩
     have hbn':Bf w1 W wn vn ((zs++[32]++nm)++[32,40]++joinL (ts.take (j+1))):=by rw[joinL_step ts j hlt,if_neg h0];simpa only[List.append_assoc,List.nil_append,List.append_nil] using hbn
     go_wp2_with fail
     go_roundw
     case rel=>exact⟨j+1,by go_num,by omega,hbn'⟩
     case measure=>simp[intOf];omega
   ·have hje:j=ts.length:=by omega
    have i1:¬ (j:Int)<(ts.length:Int):=by omega
    have hte:ts.take j=ts:=by rw[hje];exact List.take_length
    have hlr:((zs++[32]++nm)++[32,40]++joinL (ts.take j)).length=zs.length+1+nm.length+2+(joinL (ts.take j)).length:=by rw[List.length_append,hl5]
    rw[hte]at hbr hlr hMr
    go_wp2_with (at_builtin;refine Go.Lib.wpList_append_own_string _ rfl _ _ 41 9 rfl W.heap.size 5 i0 Tryz.underlying41 Tryz.underlying9 hi hz0 hz1 hz2 (.slice ar Mr pr) _ _ rfl hbr.1 _ rfl (by rw[hlr];show _+2≤maxLen;unfold maxLen;omega) (by rw[hlr];show _+2≤_;omega) hbr.2.size ?_;intro v9 w9 o9 g9 _;have hb9:=hbr.put o9 (ts:=[32,41]) rfl rfl g9)
    rw[show (zs++[32]++nm)++[32,40]++joinL ts++[32,41]=zs++([32]++nm++[32,40]++joinL ts++[32,41]) by simp only[List.append_assoc]]at hb9
    exact HF.out _ _ hb9
theorem say_5 (A W w:World) (v sv v0 v1:Value) (zs:List Int) (n tk tn:Int) (h:Bf A W w v zs) (l:List Sc) (hl:RdL W 2 sv (Sc.dats l)) (hk:tk=3∨tk=6→0≤tn∧tn<l.length) (hnm:∀ x∈l,1≤x.name.length∧x.name.length≤1000) (ts:List (List Int)) (hks:Kids W sv v1 ts) (hts:ts.length≤1000) (hb:zs.length+5+(sayTy l tk tn).length+2+(joinL ts).length+2≤1000000) :
  Calls Tryz.prog 135 #[v,.agg #[.int .i64 5,.int .i64 n,.int .i64 tk,.int .i64 tn,v0,v1],sv] w (SayP A W (zs++([32,109,97,107,101]++sayTy l tk tn++[32,40]++joinL ts++[32,41]))):=by
 obtain⟨i0,hi,hz0,hz1,hz2⟩:=info_parts Tryz.info5
 obtain⟨a,cap,rfl⟩:=h.shape
 obtain⟨a1,cap1,rfl,hks⟩:=hks
 obtain⟨w1,hw1⟩:∃ w1,Hid (w1=w.alloc (.cells #[.int .i64 5,.int .i64 n,.int .i64 tk,.int .i64 tn,v0,.slice a1 ts.length cap1] 96)):=⟨_,rfl⟩
 have hA:Bf A W w1 (.slice a zs.length cap) zs:=by rw[hw1.out];exact h.alloc _
 have hbx:BxT w.heap.size w1 [.int .i64 5,.int .i64 n,.int .i64 tk,.int .i64 tn,v0,.slice a1 ts.length cap1] 96:=by rw[hw1.out];exact BxT.new w _ _
 have HF:Hid (∀ v' w',Bf w1 W w' v' (zs++([32,109,97,107,101]++sayTy l tk tn++[32,40]++joinL ts++[32,41]))→SayP A W (zs++([32,109,97,107,101]++sayTy l tk tn++[32,40]++joinL ts++[32,41])) (.returned v') w'):=fun v' w' h=>⟨v',rfl,h.back hA.3⟩
 have hA1:=hA.from
 clear hA h
 generalize hQ:SayP A W (zs++([32,109,97,107,101]++sayTy l tk tn++[32,40]++joinL ts++[32,41]))=Q
 rw[hQ]at HF
 have HQ:Hid (∀ w',K8 w1 w'→w'.cell? ⟨w.heap.size,5,none⟩=some (.slice a1 ts.length cap1)):=hbx.at (by decide) 5 _ rfl
 have HKs:Hid (∀ (j:Nat) (hj:j<ts.length),Kid W sv (.slice a1 ts.length cap1) ts.length j ts[j]):=hks
 have HT:Hid (∀ A w v zs,Bf A W w v zs→zs.length≤1000000→Calls Tryz.prog 98 #[v,.agg #[.int .i64 tk,.int .i64 tn],sv] w (SayP A W (zs++sayTy l tk tn))):=fun A w v zs h hb=>sayTy_any A W w v zs l tk tn sv h hb hl hk hnm
 have HQ2:Hid (∀ w',K8 w1 w'→w'.cell? ⟨w.heap.size,2,none⟩=some (.int .i64 tk)):=hbx.at (by decide) 2 _ rfl
 have HQ3:Hid (∀ w',K8 w1 w'→w'.cell? ⟨w.heap.size,3,none⟩=some (.int .i64 tn)):=hbx.at (by decide) 3 _ rfl
 generalize sayTy l tk tn=ty at *
 have hB0:=hA1.later (Later.drew _)
 have q2:=HQ2.out w1.drew hB0.3
 have q3:=HQ3.out w1.drew hB0.3
 clear hbx hks hl hk hnm
 go_enter Tryz.func135,Tryz.ntmps135
 go_wp2_with fail
 rw[←hw1.out]
 go_region_law (first
  | ((have _g:=hb3);(refine step_call rfl 98 en_ty _ _ rfl [.slice a3 M3 p3,.agg #[.int .i64 tk,.int .i64 tn],sv] rfl (fun v w'=>Bf w1 W w' v (zs++[32,109,97,107,101]++ty)) (HT.out _ _ _ _ hb3 (by rw[hl3];omega)) ?_;intro v4 w4 hbH))
  | (refine step_append_str rfl _ _ 41 9 rfl W.heap.size 5 i0 Tryz.underlying41 Tryz.underlying9 hi hz0 hz1 hz2 (.slice a zs.length cap) _ _ rfl hB0.1 _ rfl (by show _+5≤maxLen;unfold maxLen;omega) (by show _+5≤_;omega) hB0.2.size ?_;intro v3 w3 o3 g3;have hb3:Bf w1 W w3 v3 (zs++[32,109,97,107,101]):=hB0.put o3 rfl rfl g3;have hl3:(zs++[32,109,97,107,101]).length=zs.length+5:=(by simp);have q4:=HQ2.out _ hb3.3;have q5:=HQ3.out _ hb3.3;obtain⟨a3,M3,p3,rfl,hM3⟩:=hb3.shape2)
  | fail "none")
 all_goals
  have hlH:(zs++[32,109,97,107,101]++ty).length=zs.length+5+ty.length:=by simp;omega
  obtain⟨aH,MH,pH,rfl,hMH⟩:=hbH.shape2
  go_wp2_with (at_builtin;refine Go.Lib.wpList_append_own_string _ rfl _ _ 41 9 rfl W.heap.size 5 i0 Tryz.underlying41 Tryz.underlying9 hi hz0 hz1 hz2 (.slice aH MH pH) _ _ rfl hbH.1 _ rfl (by rw[hlH];show _+2≤maxLen;unfold maxLen;omega) (by rw[hlH];show _+2≤_;omega) hbH.2.size ?_;intro v5 w5 o5 g5 _;have hb5:=hbH.put o5 (ts:=[32,40]) rfl rfl g5;have hl5:((zs++[32,109,97,107,101]++ty)++[32,40]).length=zs.length+5+ty.length+2:=(by rw[List.length_append,hlH];rfl);obtain⟨a5,M5,p5,rfl,hM5⟩:=hb5.shape2)
  go_loopw [0,7] (fun b i wr=>∃ j:Nat,i=.int .i64 (j:Int)∧j≤ts.length∧Bf w1 W wr b ((zs++[32,109,97,107,101]++ty)++[32,40]++joinL (ts.take j))) (fun _ i _=>ts.length - (intOf i).toNat)
  case atStart=>exact⟨0,rfl,Nat.zero_le _,by simpa[joinL] using hb5⟩
  case round =>
   obtain⟨j,rfl,hj,hbr⟩:=hrel
   have qr:=HQ.out _ hbr.3
   obtain⟨ar,Mr,pr,rfl,hMr⟩:=hbr.shape2
   by_cases hlt:j<ts.length
   ·obtain⟨_,g,off,cap',k,n',tk',tn',y0,y1,e1,_,hcl,hcall⟩:=HKs.out j hlt
    have HCL:Hid (∀ w',Later W w'→w'.cell? ⟨g,off+j*6,none⟩=some (.int .i64 k)∧w'.cell? ⟨g,off+j*6+1,none⟩=some (.int .i64 n')∧w'.cell? ⟨g,off+j*6+2,none⟩=some (.int .i64 tk')∧w'.cell? ⟨g,off+j*6+3,none⟩=some (.int .i64 tn')∧w'.cell? ⟨g,off+j*6+4,none⟩=some y0∧w'.cell? ⟨g,off+j*6+5,none⟩=some y1):=hcl
    cases e1
    have hat:=joinL_at ts j hlt
    have i1:(j:Int)<(ts.length:Int):=by omega
    have hlr:((zs++[32,109,97,107,101]++ty)++[32,40]++joinL (ts.take j)).length=zs.length+5+ty.length+2+(joinL (ts.take j)).length:=by rw[List.length_append,hl5]
    clear hcl
    by_cases h0:j=0
    ·rw[if_pos h0]at hat
     have h0':Hid (j=0):=h0
     obtain⟨d0,d1,d2,d3,d4,d5⟩:=HCL.out _ hbr.2
     have i2:¬ (0:Int)<(j:Int):=by omega
     clear h0
     go_wp2_with fail
     refine (hcall _ _ _ _ hbr (by rw[hlr];omega)).mono ?_
     rintro e wn ⟨vn,rfl,hbn⟩
     have hbn':Bf w1 W wn vn ((zs++[32,109,97,107,101]++ty)++[32,40]++joinL (ts.take (j+1))):=by rw[joinL_step ts j hlt,if_pos h0'.out];simpa only[List.append_assoc,List.nil_append,List.append_nil] using hbn
     go_wp2_with fail
     go_roundw
     case rel=>exact⟨j+1,by go_num,by omega,hbn'⟩
     case measure=>simp[intOf];omega
    ·rw[if_neg h0]at hat
     have i2:(0:Int)<(j:Int):=by omega
     go_wp2_with (at_builtin;refine Go.Lib.wpList_append_own_string _ rfl _ _ 41 9 rfl W.heap.size 5 i0 Tryz.underlying41 Tryz.underlying9 hi hz0 hz1 hz2 (.slice ar Mr pr) _ _ rfl hbr.1 _ rfl (by rw[hlr];show _+2≤maxLen;unfold maxLen;omega) (by rw[hlr];show _+2≤_;omega) hbr.2.size ?_;intro v8 w8 o8 g8 _;have hb8:=hbr.put o8 (ts:=[32,44]) rfl rfl g8;have q8:=HQ.out _ hb8.3;obtain⟨d0,d1,d2,d3,d4,d5⟩:=HCL.out _ hb8.2;have hl8:((zs++[32,109,97,107,101]++ty)++[32,40]++joinL (ts.take j)++[32,44]).length=zs.length+5+ty.length+2+(joinL (ts.take j)).length+2:=(by rw[List.length_append,hlr];rfl);obtain⟨a8,M8,p8,rfl,hM8⟩:=hb8.shape2)
     refine (hcall _ _ _ _ hb8 (by rw[hl8];omega)).mono ?_
     rintro e wn ⟨vn,rfl,hbn⟩
     have hbn':Bf w1 W wn vn ((zs++[32,109,97,107,101]++ty)++[32,40]++joinL (ts.take (j+1))):=by rw[joinL_step ts j hlt,if_neg h0];simpa only[List.append_assoc,List.nil_append,List.append_nil] using hbn
     go_wp2_with fail
     go_roundw
     case rel=>exact⟨j+1,by go_num,by omega,hbn'⟩
     case measure=>simp[intOf];omega
   ·have hje:j=ts.length:=by omega
    have i1:¬ (j:Int)<(ts.length:Int):=by omega
    have hte:ts.take j=ts:=by rw[hje];exact List.take_length
    have hlr:((zs++[32,109,97,107,101]++ty)++[32,40]++joinL (ts.take j)).length=zs.length+5+ty.length+2+(joinL (ts.take j)).length:=by rw[List.length_append,hl5]
    rw[hte]at hbr hlr hMr
    go_wp2_with (at_builtin;refine Go.Lib.wpList_append_own_string _ rfl _ _ 41 9 rfl W.heap.size 5 i0 Tryz.underlying41 Tryz.underlying9 hi hz0 hz1 hz2 (.slice ar Mr pr) _ _ rfl hbr.1 _ rfl (by rw[hlr];show _+2≤maxLen;unfold maxLen;omega) (by rw[hlr];show _+2≤_;omega) hbr.2.size ?_;intro v9 w9 o9 g9 _;have hb9:=hbr.put o9 (ts:=[32,41]) rfl rfl g9)
    rw[show (zs++[32,109,97,107,101]++ty)++[32,40]++joinL ts++[32,41]=zs++([32,109,97,107,101]++ty++[32,40]++joinL ts++[32,41]) by simp only[List.append_assoc]]at hb9
    exact HF.out _ _ hb9
structure NodeOk (l:List Sc) (k n tk tn:Int) (name:List Int) (m:Nat):Prop where
 k0:0≤k
 k13:k≤13
 n64:InR n
 many:m≤1000
 short:name.length≤1000
 st:k=2∨k=4→0≤n∧n<l.length
 op:k=10→0≤n∧n<7
 nm:k=3∨k=6∨k=7→1≤name.length
 one:k=7∨k=8∨k=10→1≤m
 two:k=8∨k=10→2≤m
 ty:k=5→tk=3∨tk=6→0≤tn∧tn<l.length
inductive Ex.Fine (l:List Sc):Ex→Prop
 | mk {k n tk tn:Int}{name:List Int}{kids:List Ex}(h:NodeOk l k n tk tn name kids.length) (hs:∀ x∈kids,Ex.Fine l x):Ex.Fine l (.mk k n tk tn name kids)
def NamesFit (l:List Sc):Prop:=∀ x∈l,1≤x.name.length∧x.name.length≤1000
theorem kid_of {W:World}{l:List Sc}{sv:Value}{a:Option Addr}{n cap:Nat}{kids:List Ex}(h1:RdL W 6 (.slice a n cap) (Ex.dats kids)) (j:Nat) (hj:j<kids.length) (hn:n=kids.length)
  (ih:∀ A w v v0 v1 zs,RdN W v0 kids[j].name→RdL W 6 v1 (Ex.dats kids[j].kids)→Bf A W w v zs→zs.length+(Ex.say l kids[j]).length≤1000000→Calls Tryz.prog 135 #[v,.agg #[.int .i64 kids[j].kind,.int .i64 kids[j].n,.int .i64 kids[j].tk,.int .i64 kids[j].tn,v0,v1],sv] w (SayP A W (zs++Ex.say l kids[j]))) :
  Kid W sv (.slice a n cap) kids.length j (Ex.say l kids[j]):=by
 obtain⟨g,off,u0,u1,rfl,hgs,c0,c1,c2,c3,c4,c5,r0,r1⟩:=Ex.elem h1 j hj
 refine⟨hj,g,off,cap,_,_,_,_,u0,u1,by rw[hn],hgs,fun w' hw=>?_,fun A w v zs hB hl=>ih A w v u0 u1 zs r0 r1 hB hl⟩
 exact⟨by rw[hw.cell (p:=⟨g,off+j*6,none⟩) hgs];exact c0,by rw[hw.cell (p:=⟨g,off+j*6+1,none⟩) hgs];exact c1,by rw[hw.cell (p:=⟨g,off+j*6+2,none⟩) hgs];exact c2,by rw[hw.cell (p:=⟨g,off+j*6+3,none⟩) hgs];exact c3,by rw[hw.cell (p:=⟨g,off+j*6+4,none⟩) hgs];exact c4,by rw[hw.cell (p:=⟨g,off+j*6+5,none⟩) hgs];exact c5⟩
theorem says_get (l:List Sc) (xs:List Ex) (j:Nat) (h:j<(Ex.says l xs).length) (h':j<xs.length):(Ex.says l xs)[j]=Ex.say l xs[j]:=by
 have:=Ex.says_at l xs j h'
 unfold kidL at this
 rw[List.getD_eq_getElem?_getD,List.getElem?_eq_getElem h]at this
 exact this
theorem fourteen {k:Int}(h0:0≤k) (h1:k≤13):k=0∨k=1∨k=2∨k=3∨k=4∨k=5∨k=6∨k=7∨k=8∨k=9∨k=10∨k=11∨k=12∨k=13:=by omega
theorem say_all {W:World}{l:List Sc}{sv:Value}(hl:RdL W 2 sv (Sc.dats l)) (hnm:NamesFit l) (N:Nat):∀ (x:Ex),x.sz<N→Ex.Fine l x→∀ A w v v0 v1 zs,RdN W v0 x.name→RdL W 6 v1 (Ex.dats x.kids)→Bf A W w v zs→zs.length+(Ex.say l x).length≤1000000 →
  Calls Tryz.prog 135 #[v,.agg #[.int .i64 x.kind,.int .i64 x.n,.int .i64 x.tk,.int .i64 x.tn,v0,v1],sv] w (SayP A W (zs++Ex.say l x)):=by
 induction N with
 | zero =>
  intro x hx
  exact absurd hx (Nat.not_lt_zero _)
 | succ N ih =>
  intro x hx hf A w v v0 v1 zs h0 h1 hB hb
  cases hf with
  | @mk k n tk tn name kids h hs =>
  replace h0:RdN W v0 name:=h0
  replace h1:RdL W 6 v1 (Ex.dats kids):=h1
  show Calls Tryz.prog 135 #[v,.agg #[.int .i64 k,.int .i64 n,.int .i64 tk,.int .i64 tn,v0,v1],sv] w (SayP A W (zs++Ex.say l (.mk k n tk tn name kids)))
  obtain⟨a1,cap1,rfl,hsl⟩:=Ex.slice h1
  have hsz:∀ (j:Nat) (hj:j<kids.length),kids[j].sz<N:=fun j hj=>by
   have:=Ex.sz_at kids j hj
   rw[Ex.sz]at hx
   omega
  have hK:∀ (j:Nat) (hj:j<kids.length),Kid W sv (.slice a1 kids.length cap1) kids.length j (Ex.say l kids[j]):=fun j hj=>kid_of h1 j hj rfl (ih kids[j] (hsz j hj) (hs _ (List.getElem_mem hj)))
  have hKs:Kids W sv (.slice a1 kids.length cap1) (Ex.says l kids):=⟨a1,cap1,by rw[Ex.says_len],fun j hj=>by
   have hj':j<kids.length:=by rw[←Ex.says_len l];exact hj
   rw[says_get l kids j hj hj',Ex.says_len]
   exact hK j hj'⟩
  have hm:(Ex.says l kids).length≤1000:=by rw[Ex.says_len];exact h.many
  have hk0:∀ (hj:0<kids.length),kidL (Ex.says l kids) 0=Ex.say l kids[0]:=fun hj=>Ex.says_at l kids 0 hj
  have hk1:∀ (hj:1<kids.length),kidL (Ex.says l kids) 1=Ex.say l kids[1]:=fun hj=>Ex.says_at l kids 1 hj
  rw[Ex.say]at hb ⊢
  generalize Ex.says l kids=ts at *
  have hbz:zs.length≤1000000:=by omega
  have hsh:=h.short
  obtain rfl|rfl|rfl|rfl|rfl|rfl|rfl|rfl|rfl|rfl|rfl|rfl|rfl|rfl:=fourteen h.k0 h.k13
  ·exact say_0 A W w v sv v0 _ zs n tk tn hB hbz h.n64
  ·exact say_1 A W w v sv v0 _ zs n tk tn hB hbz
  ·exact say_2 A W w v sv v0 _ zs n tk tn hB hbz l hl (h.st (.inl rfl)).1 (h.st (.inl rfl)).2 hnm
  ·exact say_3 A W w v sv v0 _ zs n tk tn hB hbz name h0 (h.nm (.inl rfl)) hsh
  ·exact say_4 A W w v sv v0 _ zs n tk tn hB hbz l hl (h.st (.inr rfl)).1 (h.st (.inr rfl)).2 hnm
  ·have e:exL l 5 n tk tn name ts=[32,109,97,107,101]++sayTy l tk tn++[32,40]++joinL ts++[32,41]:=rfl
   rw[e]at hb ⊢
   exact say_5 A W w v sv v0 _ zs n tk tn hB l hl (h.ty rfl) hnm ts hKs hm (by simp only[List.length_append,List.length_cons,List.length_nil]at hb;omega)
  ·have e:exL l 6 n tk tn name ts=[32]++name++[32,40]++joinL ts++[32,41]:=rfl
   rw[e]at hb ⊢
   exact say_6 A W w v sv v0 _ zs n tk tn hB ts name hKs hm h0 (h.nm (.inr (.inl rfl))) (by simp only[List.length_append,List.length_cons,List.length_nil]at hb;omega)
  ·have hj:0<kids.length:=h.one (.inl rfl)
   have e:exL l 7 n tk tn name ts=Ex.say l kids[0]++[32,46,32]++name:=by rw[←hk0 hj];rfl
   rw[e]at hb ⊢
   exact say_7 A W w v sv v0 _ zs n tk tn hB _ _ name (hK 0 hj) h0 (h.nm (.inr (.inr rfl))) (by simp only[List.length_append,List.length_cons,List.length_nil]at hb;omega)
  ·have hj:1<kids.length:=h.two (.inl rfl)
   have e:exL l 8 n tk tn name ts=Ex.say l kids[0]++([32,91]:List Int)++Ex.say l kids[1]++([32,93]:List Int):=by rw[←hk0 (by omega),← hk1 hj];rfl
   rw[e]at hb ⊢
   exact say_8 A W w v sv v0 _ zs n tk tn hB _ _ _ (hK 0 (by omega)) (hK 1 hj) (by simp only[List.length_append,List.length_cons,List.length_nil]at hb;omega)
  ·have e:exL l 9 n tk tn name ts=[32,108,101,110]++[32,40]++joinL ts++[32,41]:=rfl
   rw[e]at hb ⊢
   exact say_9 A W w v sv v0 _ zs n tk tn hB ts hKs hm (by simp only[List.length_append,List.length_cons,List.length_nil]at hb;omega)
  ·have hj:1<kids.length:=h.two (.inr rfl)
   have e:exL l 10 n tk tn name ts=([32,40]:List Int)++Ex.say l kids[0]++(32::opL n)++Ex.say l kids[1]++([32,41]:List Int):=by rw[←hk0 (by omega),← hk1 hj];rfl
   rw[e]at hb ⊢
   exact say_10 A W w v sv v0 _ zs n tk tn hB _ _ _ (hK 0 (by omega)) (hK 1 hj) (h.op rfl).1 (h.op rfl).2 (by simp only[List.length_append,List.length_cons,List.length_nil]at hb;omega)
  ·exact say_11 A W w v sv v0 _ zs n tk tn hB hbz
  ·have e:exL l 12 n tk tn name ts=[32,105,110,116]++[32,40]++joinL ts++[32,41]:=rfl
   rw[e]at hb ⊢
   exact say_12 A W w v sv v0 _ zs n tk tn hB ts hKs hm (by simp only[List.length_append,List.length_cons,List.length_nil]at hb;omega)
  ·have e:exL l 13 n tk tn name ts=[32,102,108,111,97,116]++[32,40]++joinL ts++[32,41]:=rfl
   rw[e]at hb ⊢
   exact say_13 A W w v sv v0 _ zs n tk tn hB ts hKs hm (by simp only[List.length_append,List.length_cons,List.length_nil]at hb;omega)
theorem say_any {W:World}{l:List Sc}{sv:Value}(hl:RdL W 2 sv (Sc.dats l)) (hnm:NamesFit l) (x:Ex) (hf:Ex.Fine l x) (A w:World) (v v0 v1:Value) (zs:List Int) (h0:RdN W v0 x.name) (h1:RdL W 6 v1 (Ex.dats x.kids)) (hB:Bf A W w v zs) (hb:zs.length+(Ex.say l x).length≤1000000) :
  Calls Tryz.prog 135 #[v,.agg #[.int .i64 x.kind,.int .i64 x.n,.int .i64 x.tk,.int .i64 x.tn,v0,v1],sv] w (SayP A W (zs++Ex.say l x)) :=
 say_all hl hnm _ x (Nat.lt_succ_self _) hf A w v v0 v1 zs h0 h1 hB hb
def setL:List Value→Nat→List Value→List Value
 | xs,_,[]=>xs
 | xs,o,v::r=>setL (xs.set o v) (o+1) r
theorem setL_len (vs:List Value):∀ (xs:List Value) (o:Nat),(setL xs o vs).length=xs.length:=by
 induction vs with
 | nil=>intro xs o;rfl
 | cons v r ih=>intro xs o;rw[setL,ih,List.length_set]
theorem setL_take (vs:List Value):∀ (xs:List Value) (o:Nat),o+vs.length≤xs.length→(setL xs o vs).take (o+vs.length)=xs.take o++vs:=by
 induction vs with
 | nil=>intro xs o _;simp[setL]
 | cons v r ih =>
  intro xs o h
  rw[List.length_cons]at h
  have h1:=ih (xs.set o v) (o+1) (by rw[List.length_set];omega)
  rw[setL,List.length_cons,show o+(r.length+1)=o+1+r.length by omega,h1]
  have h2:(xs.set o v).take (o+1)=xs.take o++[v]:=by
   rw[List.take_add_one,List.take_set_of_le (Nat.le_refl _),List.getElem?_set_self (by omega)]
   rfl
  rw[h2,List.append_assoc]
  rfl
theorem stored_many (vs:List Value):∀ (w:World) (base e g n cap o:Nat) (xs:List Value),w.ownsRow base e 1 (.slice (some ⟨g,0,none⟩) n cap) n xs →
  (w.setCells g o vs).ownsRow base e 1 (.slice (some ⟨g,0,none⟩) n cap) n (setL xs o vs)∧w.grownBy (w.setCells g o vs) (some g):=by
 induction vs with
 | nil=>intro w base e g n cap o xs h;exact⟨h,rfl,rfl,rfl,Nat.le_refl _,fun _ _ _=>rfl⟩
 | cons v r ih =>
  intro w base e g n cap o xs h
  obtain⟨h1,g1⟩:=h.stored o v
  obtain⟨h2,g2⟩:=ih _ base e g n cap (o+1) _ h1
  refine⟨h2,g2.os.trans g1.os,g2.tape.trans g1.tape,g2.output.trans g1.output,Nat.le_trans g1.size g2.size,fun k hk hne=>?_⟩
  rw[World.setCells,g2.block k (Nat.lt_of_lt_of_le hk g1.size) hne,g1.block k hk hne]
theorem own_take {w:World}{base e g n cap:Nat}{xs:List Value}(h:w.ownsRow base e 1 (.slice (some ⟨g,0,none⟩) n cap) n xs) (m:Nat) (hm:m≤n):w.ownsRow base e 1 (.slice (some ⟨g,0,none⟩) m cap) m (xs.take m):=by
 have hl:=h.1
 rcases h.2 with ⟨h',_⟩|⟨g',cap',cur,h',hb,hg,hnc,hcm,hcs,htake⟩
 ·simp at h'
 ·simp only[Value.slice.injEq,Option.some.injEq,Addr.mk.injEq,and_true,true_and]at h'
  obtain⟨rfl,rfl⟩:=h'
  refine⟨by rw[List.length_take];omega,.inr ⟨g,cap,cur,rfl,hb,hg,by omega,hcm,hcs,?_⟩⟩
  rw[←htake,List.take_take,Nat.mul_one,Nat.mul_one,Nat.min_eq_left hm]
theorem cut_row {A W w:World}{g n cap k:Nat}{zs ts:List Int}{c:Int}(h:Bf A W w (.slice (some ⟨g,0,none⟩) n cap) (zs++c::ts)) (hn:n=zs.length+1+ts.length) (hk:k=zs.length) :
  Bf A W (w.setCells g (0+k*1) (ts.map (Value.int .u8))) (.slice (some ⟨g,0,none⟩) (k+ts.length) cap) (zs++ts):=by
 subst hk
 have hl:(zs++c::ts).length=n:=by rw[List.length_append,List.length_cons];omega
 have h0:=h.1
 rw[hl]at h0
 obtain⟨h1,g1⟩:=stored_many (ts.map (Value.int .u8)) w _ _ g n cap (0+zs.length*1) _ h0
 have h2:=own_take h1 (zs.length+ts.length) (by omega)
 have h3:=setL_take (ts.map (Value.int .u8)) ((zs++c::ts).map (Value.int .u8)) (0+zs.length*1) (by simp)
 have e:((zs++c::ts).map (Value.int .u8)).take (0+zs.length*1)=zs.map (Value.int .u8):=by
  rw[List.map_append,Nat.zero_add,Nat.mul_one]
  exact List.take_left' (by simp)
 rw[e,List.length_map,Nat.zero_add,Nat.mul_one]at h3
 rw[Nat.zero_add,Nat.mul_one]at h2
 rw[h3,← List.map_append]at h2
 refine⟨?_,h.2.trans' (v:=.slice (some ⟨g,0,none⟩) n cap) g1 (own_lt_b h.1),h.3.trans (K8.grown h.1 g1)⟩
 rw[List.length_append,Nat.zero_add,Nat.mul_one]
 exact h2
end Go.Proofs.YtmdejbphoafjlaaGreatDoor
