import Derived.Test.YtgholpilmdebmaaGreatDoorZ10
import Derived.Test.YtgholpilmdebmaaGreatDoorZ05
import Derived.Deep.RegionHeld3
set_option maxHeartbeats 100000000
set_option maxRecDepth 100000
namespace Go.Proofs.YtgholpilmdebmaaGreatDoor
open Go.RowKit Go.Lib
theorem dec_say (n:Int) (w:World) (hn:InR n):Calls Tryz.prog 41 #[.int .i64 n] w (SayP w w (decL n)):=by
 refine (dec_any n w hn).mono ?_;rintro e w' ⟨v,rfl,o,l⟩;exact⟨v,rfl,o,l,l.k8⟩
theorem zcz (n:Int):1≤(decL n).length∧(decL n).length≤21:=by
 unfold decL;have h1:=zeb 20 (-n).toNat;have h2:=zeb 20 n.toNat;have h3:0<(digF 20 n.toNat).length:=zea 19 n.toNat;split
 ·rw[List.length_cons];omega
 ·omega
theorem Bf.keep {X w w':World}{v2:Value}{ys:List Int}{vb:Option Nat}(h:Bf X X w v2 ys) (g:w.grownBy w' vb) (hlt:∀ b,vb=some b→b<X.heap.size):w'.ownsRow X.heap.size 5 1 v2 ys.length (ys.map (Value.int .u8)):=by
 refine h.1.kept g ?_
 cases hv:v2.ownBlock with
 | none=>exact .inl rfl
 | some b2 =>
  refine .inr fun e=>?_;have h1:=(h.1.lt b2 hv).1;have h2:=hlt b2 e.symm;omega
theorem Later.ones {w w':World}{g:Nat}{X:List Value}(hl:Later w w') (hg:g<w.heap.size) (h:∀ j u,X[j]?=some u→w.cell? ((⟨g,0,none⟩:Addr).add j)=some u):∀ j u,X[j]?=some u→w'.cell? ((⟨g,0,none⟩:Addr).add j)=some u:=fun j u hj=>by
 have:=h j u hj;rw[Addr.add_lit]at this ⊢;rw[hl.cell (p:=⟨g,0+j,none⟩) hg];exact this
theorem say_0 (A W w:World) (v sv v0 v1:Value) (zs:List Int) (n tk tn:Int) (h:Bf A W w v zs) (hb:zs.length≤1000000) (hn:InR n) :
  Calls Tryz.prog 55 #[v,.agg #[.int .i64 0,.int .i64 n,.int .i64 tk,.int .i64 tn,v0,v1],sv] w (SayP A W (zs++32::decL n)):=by
 obtain⟨i0,hi,hz0,hz1,hz2⟩:=info_parts Tryz.info5;obtain⟨a,cap,rfl⟩:=h.shape;have hys:=zcz n;have HD:Hid (∀ w',Calls Tryz.prog 41 #[.int .i64 n] w' (SayP w' w' (decL n))):=fun w'=>dec_say n w' hn
 generalize decL n=ys at *
 obtain⟨w1,hw1⟩:∃ w1,Hid (w1=w.alloc (.cells #[.int .i64 0,.int .i64 n,.int .i64 tk,.int .i64 tn,v0,v1] 89)):=⟨_,rfl⟩
 have hA:Bf A W w1 (.slice a zs.length cap) zs:=by rw[hw1.out];exact h.alloc _
 have hbx:BxT w.heap.size w1 [.int .i64 0,.int .i64 n,.int .i64 tk,.int .i64 tn,v0,v1] 89:=by rw[hw1.out];exact BxT.new w _ _
 have HQ:Hid (∀ w',K8 w1 w'→w'.cell? ⟨w.heap.size,1,none⟩=some (.int .i64 n)):=fun w' k=>(hbx.k8 k (by decide)).cell 1 _ rfl;have q1:=HQ.out w1.drew (Later.drew _).k8;have q1':=HQ.out (w1.alloc (.cells #[.int .u8 32] 5)).drew ((later1 _ _).trans (Later.drew _)).k8
 have HF:Hid (∀ v' w',Bf w1 W w' v' (zs++[32]++ys)→SayP A W (zs++32::ys) (.returned v') w'):=fun v' w' h=>⟨v',rfl,by have h2:=h.back hA.3;rwa [List.append_assoc]at h2⟩
 have hB0:=hA.from.later (Later.drew _)
 have hB1:=(hA.from.alloc (.cells #[.int .u8 32] 5)).later (Later.drew _);have hS1:=Later.ones (Later.drew (w1.alloc (.cells #[.int .u8 32] 5))) (g:=w1.heap.size) (by simp) (zaq w1 32);have hlt0:∀ b,Value.ownBlock (.slice a zs.length cap)=some b→b<w1.drew.heap.size:=fun b hb=>(hB0.1.lt b hb).2;have hlt1:∀ b,Value.ownBlock (.slice a zs.length cap)=some b→b<(w1.alloc (.cells #[.int .u8 32] 5)).drew.heap.size:=fun b hb=>(hB1.1.lt b hb).2;have hsz:w1.heap.size<(w1.alloc (.cells #[.int .u8 32] 5)).drew.heap.size:=by show w1.heap.size<(w1.heap.push _).size;simp
 clear hbx hA h
 generalize hQ:SayP A W (zs++32::ys)=Q
 rw[hQ]at HF;go_enter Tryz.func55,Tryz.ntmps55;go_wp2_with fail
 rw[←hw1.out]
 go_region_law (first
  | (have _g:=hfin;(refine zab rfl _ _ 22 rfl W.heap.size 5 i0 (.int .u8 0) 1 1 Tryz.underlying22 hi hz0 hz1 hz2 rfl (by decide) (.slice a3 M3 p3) _ _ rfl hfin.1 ⟨g4,0,none⟩ ys.length q4 (ys.map (Value.int .u8)) rfl (by rw[List.length_map,Nat.mul_one]) hcf (zbe ys) (by rw[hl3];unfold maxLen;omega) (by rw[hl3];omega) hfin.2.size ?_;intro v5 w5 o5 g5;have hbf5:=hfin.put o5 rfl rfl g5))
  | (refine zab rfl _ _ 22 rfl W.heap.size 5 i0 (.int .u8 0) 1 1 Tryz.underlying22 hi hz0 hz1 hz2 rfl (by decide) (.slice a zs.length cap) _ _ rfl (hB1).1 ⟨_,0,none⟩ 1 1 [.int .u8 32] rfl rfl (hS1) (by simp[Value.oneCell']) (by unfold maxLen;omega) (by omega) (hB1).2.size ?_;intro v3 w3 o3 g3;have hbf3:Bf w1 W w3 v3 (zs++[32]):=hB1.put o3 rfl rfl g3;have hl3:(zs++[32]).length=zs.length+1:=(by simp);have q3:=HQ.out _ hbf3.3;obtain⟨a3,M3,p3,rfl,hM3⟩:=hbf3.shape2)
  | (refine zab rfl _ _ 22 rfl W.heap.size 5 i0 (.int .u8 0) 1 1 Tryz.underlying22 hi hz0 hz1 hz2 rfl (by decide) (.slice a zs.length cap) _ _ rfl (hB1.later hd4.2).1 ⟨_,0,none⟩ 1 1 [.int .u8 32] rfl rfl (Later.ones hd4.2 hsz hS1) (by simp[Value.oneCell']) (by unfold maxLen;omega) (by omega) (hB1.later hd4.2).2.size ?_;intro v3 w3 o3 g3;have hfin:Bf w1 W w3 v3 (zs++[32]):=(hB1.later hd4.2).put o3 rfl rfl g3;have hl3:(zs++[32]).length=zs.length+1:=(by simp);have hrow:=hd4.keep g3 hlt1;obtain⟨g5,q5,e5,_,_,hcf⟩:=zat hrow (by omega);cases e5;obtain⟨a3,M3,p3,rfl,hM3⟩:=hfin.shape2)
  | (refine zab rfl _ _ 22 rfl W.heap.size 5 i0 (.int .u8 0) 1 1 Tryz.underlying22 hi hz0 hz1 hz2 rfl (by decide) (.slice a zs.length cap) _ _ rfl ((hB0.later hd4.2).alloc _).1 ⟨_,0,none⟩ 1 1 [.int .u8 32] rfl rfl (zaq _ _) (by simp[Value.oneCell']) (by unfold maxLen;omega) (by omega) ((hB0.later hd4.2).alloc _).2.size ?_;intro v3 w3 o3 g3;have hfin:Bf w1 W w3 v3 (zs++[32]):=((hB0.later hd4.2).alloc _).put o3 rfl rfl g3;have hl3:(zs++[32]).length=zs.length+1:=(by simp);have hrow:=(hd4.alloc _).keep g3 hlt0;obtain⟨g5,q5,e5,_,_,hcf⟩:=zat hrow (by omega);cases e5;obtain⟨a3,M3,p3,rfl,hM3⟩:=hfin.shape2)
  | ((fail_if_success (have _g:=hbf3));refine zaa rfl 41 en_dec _ _ rfl [.int .i64 n] rfl (fun v w'=>Bf _ _ w' v ys) (HD.out _) ?_;intro v4 w4 hd4;obtain⟨g4,q4,rfl,hb4,_,hcf0⟩:=zat hd4.1 (by omega))
  | (have _g:=hbf3;(refine zaa rfl 41 en_dec _ _ rfl [.int .i64 n] rfl (fun v w'=>Bf _ _ w' v ys) (HD.out _) ?_;intro v4 w4 hd4;have hfin:=hbf3.later hd4.2;obtain⟨g4,q4,rfl,hb4,_,hcf⟩:=zat hd4.1 (by omega)))
  | fail "none")
 all_goals
  go_wp2_with fail
  go_simp;go_ret;exact HF.out _ _ hbf5
theorem hexL_len2 (n:Int):1≤(hexL n).length∧(hexL n).length≤21:=by rw[zdx];exact⟨by decide,by decide⟩
theorem say_1 (A W w:World) (v sv v0 v1:Value) (zs:List Int) (n tk tn:Int) (h:Bf A W w v zs) (hb:zs.length≤1000000) :
  Calls Tryz.prog 55 #[v,.agg #[.int .i64 1,.int .i64 n,.int .i64 tk,.int .i64 tn,v0,v1],sv] w (SayP A W (zs++32::hexL n)):=by
 obtain⟨i0,hi,hz0,hz1,hz2⟩:=info_parts Tryz.info5;obtain⟨a,cap,rfl⟩:=h.shape;have hys:=hexL_len2 n;have HD:Hid (∀ w',Calls Tryz.prog 87 #[.int .i64 n] w' (SayP w' w' (hexL n))):=fun w'=>hex_any n w'
 generalize hexL n=ys at *
 obtain⟨w1,hw1⟩:∃ w1,Hid (w1=w.alloc (.cells #[.int .i64 1,.int .i64 n,.int .i64 tk,.int .i64 tn,v0,v1] 89)):=⟨_,rfl⟩
 have hA:Bf A W w1 (.slice a zs.length cap) zs:=by rw[hw1.out];exact h.alloc _
 have hbx:BxT w.heap.size w1 [.int .i64 1,.int .i64 n,.int .i64 tk,.int .i64 tn,v0,v1] 89:=by rw[hw1.out];exact BxT.new w _ _
 have HQ:Hid (∀ w',K8 w1 w'→w'.cell? ⟨w.heap.size,1,none⟩=some (.int .i64 n)):=fun w' k=>(hbx.k8 k (by decide)).cell 1 _ rfl;have q1:=HQ.out w1.drew (Later.drew _).k8;have q1':=HQ.out (w1.alloc (.cells #[.int .u8 32] 5)).drew ((later1 _ _).trans (Later.drew _)).k8
 have HF:Hid (∀ v' w',Bf w1 W w' v' (zs++[32]++ys)→SayP A W (zs++32::ys) (.returned v') w'):=fun v' w' h=>⟨v',rfl,by have h2:=h.back hA.3;rwa [List.append_assoc]at h2⟩
 have hB0:=hA.from.later (Later.drew _)
 have hB1:=(hA.from.alloc (.cells #[.int .u8 32] 5)).later (Later.drew _);have hS1:=Later.ones (Later.drew (w1.alloc (.cells #[.int .u8 32] 5))) (g:=w1.heap.size) (by simp) (zaq w1 32);have hlt0:∀ b,Value.ownBlock (.slice a zs.length cap)=some b→b<w1.drew.heap.size:=fun b hb=>(hB0.1.lt b hb).2;have hlt1:∀ b,Value.ownBlock (.slice a zs.length cap)=some b→b<(w1.alloc (.cells #[.int .u8 32] 5)).drew.heap.size:=fun b hb=>(hB1.1.lt b hb).2;have hsz:w1.heap.size<(w1.alloc (.cells #[.int .u8 32] 5)).drew.heap.size:=by show w1.heap.size<(w1.heap.push _).size;simp
 clear hbx hA h
 generalize hQ:SayP A W (zs++32::ys)=Q
 rw[hQ]at HF;go_enter Tryz.func55,Tryz.ntmps55;go_wp2_with fail
 rw[←hw1.out]
 go_region_law (first
  | (have _g:=hfin;(refine zab rfl _ _ 22 rfl W.heap.size 5 i0 (.int .u8 0) 1 1 Tryz.underlying22 hi hz0 hz1 hz2 rfl (by decide) (.slice a3 M3 p3) _ _ rfl hfin.1 ⟨g4,0,none⟩ ys.length q4 (ys.map (Value.int .u8)) rfl (by rw[List.length_map,Nat.mul_one]) hcf (zbe ys) (by rw[hl3];unfold maxLen;omega) (by rw[hl3];omega) hfin.2.size ?_;intro v5 w5 o5 g5;have hbf5:=hfin.put o5 rfl rfl g5))
  | (refine zab rfl _ _ 22 rfl W.heap.size 5 i0 (.int .u8 0) 1 1 Tryz.underlying22 hi hz0 hz1 hz2 rfl (by decide) (.slice a zs.length cap) _ _ rfl (hB1).1 ⟨_,0,none⟩ 1 1 [.int .u8 32] rfl rfl (hS1) (by simp[Value.oneCell']) (by unfold maxLen;omega) (by omega) (hB1).2.size ?_;intro v3 w3 o3 g3;have hbf3:Bf w1 W w3 v3 (zs++[32]):=hB1.put o3 rfl rfl g3;have hl3:(zs++[32]).length=zs.length+1:=(by simp);have q3:=HQ.out _ hbf3.3;obtain⟨a3,M3,p3,rfl,hM3⟩:=hbf3.shape2)
  | (refine zab rfl _ _ 22 rfl W.heap.size 5 i0 (.int .u8 0) 1 1 Tryz.underlying22 hi hz0 hz1 hz2 rfl (by decide) (.slice a zs.length cap) _ _ rfl (hB1.later hd4.2).1 ⟨_,0,none⟩ 1 1 [.int .u8 32] rfl rfl (Later.ones hd4.2 hsz hS1) (by simp[Value.oneCell']) (by unfold maxLen;omega) (by omega) (hB1.later hd4.2).2.size ?_;intro v3 w3 o3 g3;have hfin:Bf w1 W w3 v3 (zs++[32]):=(hB1.later hd4.2).put o3 rfl rfl g3;have hl3:(zs++[32]).length=zs.length+1:=(by simp);have hrow:=hd4.keep g3 hlt1;obtain⟨g5,q5,e5,_,_,hcf⟩:=zat hrow (by omega);cases e5;obtain⟨a3,M3,p3,rfl,hM3⟩:=hfin.shape2)
  | (refine zab rfl _ _ 22 rfl W.heap.size 5 i0 (.int .u8 0) 1 1 Tryz.underlying22 hi hz0 hz1 hz2 rfl (by decide) (.slice a zs.length cap) _ _ rfl ((hB0.later hd4.2).alloc _).1 ⟨_,0,none⟩ 1 1 [.int .u8 32] rfl rfl (zaq _ _) (by simp[Value.oneCell']) (by unfold maxLen;omega) (by omega) ((hB0.later hd4.2).alloc _).2.size ?_;intro v3 w3 o3 g3;have hfin:Bf w1 W w3 v3 (zs++[32]):=((hB0.later hd4.2).alloc _).put o3 rfl rfl g3;have hl3:(zs++[32]).length=zs.length+1:=(by simp);have hrow:=(hd4.alloc _).keep g3 hlt0;obtain⟨g5,q5,e5,_,_,hcf⟩:=zat hrow (by omega);cases e5;obtain⟨a3,M3,p3,rfl,hM3⟩:=hfin.shape2)
  | ((fail_if_success (have _g:=hbf3));refine zaa rfl 87 en_hex _ _ rfl [.int .i64 n] rfl (fun v w'=>Bf _ _ w' v ys) (HD.out _) ?_;intro v4 w4 hd4;obtain⟨g4,q4,rfl,hb4,_,hcf0⟩:=zat hd4.1 (by omega))
  | (have _g:=hbf3;(refine zaa rfl 87 en_hex _ _ rfl [.int .i64 n] rfl (fun v w'=>Bf _ _ w' v ys) (HD.out _) ?_;intro v4 w4 hd4;have hfin:=hbf3.later hd4.2;obtain⟨g4,q4,rfl,hb4,_,hcf⟩:=zat hd4.1 (by omega)))
  | fail "none")
 all_goals
  go_wp2_with fail
  go_simp;go_ret;exact HF.out _ _ hbf5
def Kid (W:World) (sv v1:Value) (m j:Nat) (t:List Int):Prop:=j<m∧∃ (g off cap:Nat) (k n tk tn:Int) (u0 u1:Value),v1=.slice (some ⟨g,off,none⟩) m cap∧g<W.heap.size ∧
 (∀ w',Later W w'→w'.cell? ⟨g,off+j*6,none⟩=some (.int .i64 k)∧w'.cell? ⟨g,off+j*6+1,none⟩=some (.int .i64 n)∧w'.cell? ⟨g,off+j*6+2,none⟩=some (.int .i64 tk)∧w'.cell? ⟨g,off+j*6+3,none⟩=some (.int .i64 tn)∧w'.cell? ⟨g,off+j*6+4,none⟩=some u0∧w'.cell? ⟨g,off+j*6+5,none⟩=some u1) ∧
 (∀ A w v zs,Bf A W w v zs→zs.length+t.length≤1000000→Calls Tryz.prog 55 #[v,.agg #[.int .i64 k,.int .i64 n,.int .i64 tk,.int .i64 tn,u0,u1],sv] w (SayP A W (zs++t)))
theorem BxT.at {b:Nat}{A:World}{cs:List Value}{t:TypeId}(h:BxT b A cs t) (ht:t≠5) (i:Nat) (u:Value) (hu:cs[i]?=some u):∀ w',K8 A w'→w'.cell? ⟨b,i,none⟩=some u:=fun _ k=>(h.k8 k ht).cell i u hu
theorem say_11 (A W w:World) (v sv v0 v1:Value) (zs:List Int) (n tk tn:Int) (h:Bf A W w v zs) (hb:zs.length≤1000000) :
  Calls Tryz.prog 55 #[v,.agg #[.int .i64 11,.int .i64 n,.int .i64 tk,.int .i64 tn,v0,v1],sv] w (SayP A W (zs++[32,114,101,97,100])):=by
 obtain⟨i0,hi,hz0,hz1,hz2⟩:=info_parts Tryz.info5;obtain⟨a,cap,rfl⟩:=h.shape
 obtain⟨w1,hw1⟩:∃ w1,Hid (w1=w.alloc (.cells #[.int .i64 11,.int .i64 n,.int .i64 tk,.int .i64 tn,v0,v1] 89)):=⟨_,rfl⟩
 have hA:Bf A W w1 (.slice a zs.length cap) zs:=by rw[hw1.out];exact h.alloc _
 have hbx:BxT w.heap.size w1 [.int .i64 11,.int .i64 n,.int .i64 tk,.int .i64 tn,v0,v1] 89:=by rw[hw1.out];exact BxT.new w _ _
 have HF:Hid (∀ v' w',Bf w1 W w' v' (zs++[32,114,101,97,100])→SayP A W (zs++[32,114,101,97,100]) (.returned v') w'):=fun v' w' h=>⟨v',rfl,h.back hA.3⟩
 have hA1:=hA.from
 clear hA h
 generalize hQ:SayP A W (zs++[32,114,101,97,100])=Q
 rw[hQ]at HF;clear hbx;obtain rfl:=hw1.out;go_enter Tryz.func55,Tryz.ntmps55;go_wp2_with (at_builtin;refine Go.Lib.wpList_append_own_string _ rfl _ _ 22 9 rfl W.heap.size 5 i0 Tryz.underlying22 Tryz.underlying9 hi hz0 hz1 hz2 (.slice a zs.length cap) _ _ rfl hA1.1 _ rfl (by show _+5≤maxLen;unfold maxLen;omega) (by show _+5≤_;omega) hA1.2.size ?_;intro v3 w3 o3 g3 _)
 exact HF.out _ _ (hA1.put o3 rfl rfl g3)
theorem say_3 (A W w:World) (v sv v0 v1:Value) (zs:List Int) (n tk tn:Int) (h:Bf A W w v zs) (hb:zs.length≤1000000) (nm:List Int) (hv0:RdN W v0 nm) (hn1:1≤nm.length) (hn2:nm.length≤1000) :
  Calls Tryz.prog 55 #[v,.agg #[.int .i64 3,.int .i64 n,.int .i64 tk,.int .i64 tn,v0,v1],sv] w (SayP A W (zs++([32]++nm))):=by
 obtain⟨i0,hi,hz0,hz1,hz2⟩:=info_parts Tryz.info5;obtain⟨a,cap,rfl⟩:=h.shape;obtain⟨g0,off0,q,rfl,hg0,hcells⟩:=zbm hv0 hn1
 obtain⟨w1,hw1⟩:∃ w1,Hid (w1=w.alloc (.cells #[.int .i64 3,.int .i64 n,.int .i64 tk,.int .i64 tn,.slice (some ⟨g0,off0,none⟩) nm.length q,v1] 89)):=⟨_,rfl⟩
 have hA:Bf A W w1 (.slice a zs.length cap) zs:=by rw[hw1.out];exact h.alloc _
 have hbx:BxT w.heap.size w1 [.int .i64 3,.int .i64 n,.int .i64 tk,.int .i64 tn,.slice (some ⟨g0,off0,none⟩) nm.length q,v1] 89:=by rw[hw1.out];exact BxT.new w _ _
 have HF:Hid (∀ v' w',Bf w1 W w' v' (zs++([32]++nm))→SayP A W (zs++([32]++nm)) (.returned v') w'):=fun v' w' h=>⟨v',rfl,h.back hA.3⟩
 have hA1:=hA.from
 clear hA h
 generalize hQ:SayP A W (zs++([32]++nm))=Q
 rw[hQ]at HF;have HQ:Hid (∀ w',K8 w1 w'→w'.cell? ⟨w.heap.size,4,none⟩=some (.slice (some ⟨g0,off0,none⟩) nm.length q)):=hbx.at (by decide) 4 _ rfl;have HC:Hid _:=hcells;have q1:=HQ.out w1.drew (Later.drew _).k8;have q1':=HQ.out (w1.alloc (.cells #[.int .u8 32] 5)).drew ((later1 _ _).trans (Later.drew _)).k8;have hB1:=(hA1.alloc (.cells #[.int .u8 32] 5)).later (Later.drew _);have hS1:=Later.ones (Later.drew (w1.alloc (.cells #[.int .u8 32] 5))) (g:=w1.heap.size) (by simp) (zaq w1 32)
 obtain⟨X,hX⟩:∃ X,Hid (X=nm.map (Value.int .u8)):=⟨_,rfl⟩
 have hXl:X.length=nm.length:=by rw[hX.out];simp
 have hX1:∀ u∈X,u.oneCell'=true:=by rw[hX.out];exact zbe nm
 rw[←hX.out]at HC;clear hbx hcells hv0;go_enter Tryz.func55,Tryz.ntmps55;go_wp2_with fail
 rw[←hw1.out]
 go_region_law (first
  | (have _g:=hbf3;(refine zab rfl _ _ 22 rfl W.heap.size 5 i0 (.int .u8 0) 1 1 Tryz.underlying22 hi hz0 hz1 hz2 rfl (by decide) (.slice a3 M3 p3) _ _ rfl hbf3.1 ⟨g0,off0,none⟩ nm.length q X rfl (by rw[hXl,Nat.mul_one]) (HC.out _ hbf3.2) hX1 (by rw[hl3];unfold maxLen;omega) (by rw[hl3];omega) hbf3.2.size ?_;intro v5 w5 o5 g5;have hbf5:=hbf3.put o5 rfl hX.out g5))
  | (refine zab rfl _ _ 22 rfl W.heap.size 5 i0 (.int .u8 0) 1 1 Tryz.underlying22 hi hz0 hz1 hz2 rfl (by decide) (.slice a zs.length cap) _ _ rfl hB1.1 ⟨_,0,none⟩ 1 1 [.int .u8 32] rfl rfl hS1 (by simp[Value.oneCell']) (by unfold maxLen;omega) (by omega) hB1.2.size ?_;intro v3 w3 o3 g3;have hbf3:Bf w1 W w3 v3 (zs++[32]):=hB1.put o3 rfl rfl g3;have hl3:(zs++[32]).length=zs.length+1:=(by simp);have q3:=HQ.out _ hbf3.3;obtain⟨a3,M3,p3,rfl,hM3⟩:=hbf3.shape2)
  | fail "none")
 all_goals
  rw[List.append_assoc]at hbf5;go_wp2_with fail
  go_simp;go_ret;exact HF.out _ _ hbf5
theorem say_2 (A W w:World) (v sv v0 v1:Value) (zs:List Int) (n tk tn:Int) (h:Bf A W w v zs) (hb:zs.length≤1000000) (l:List Sc) (hl:RdL W 2 sv (Sc.dats l)) (h0:0≤n) (h1:n<l.length) (hnm:∀ x∈l,1≤x.name.length∧x.name.length≤1000) :
  Calls Tryz.prog 55 #[v,.agg #[.int .i64 2,.int .i64 n,.int .i64 tk,.int .i64 tn,v0,v1],sv] w (SayP A W (zs++([32,110,105,108,32]++nmAt l n))):=by
 obtain⟨i0,hi,hz0,hz1,hz2⟩:=info_parts Tryz.info5;obtain⟨a,cap,rfl⟩:=h.shape
 obtain⟨N,rfl⟩:∃ N:Nat,n=N:=⟨n.toNat,by omega⟩
 have hN:N<l.length:=by omega
 obtain⟨sa,scap,rfl,hsl⟩:=Sc.slice hl;obtain⟨g,off,u0,u1,rfl,hg,hc0,hc1,hr0,hr1⟩:=Sc.elem hl N hN;obtain⟨hn1,hn2⟩:=hnm l[N] (List.getElem_mem hN);have he:nmAt l (N:Int)=l[N].name:=by unfold nmAt;rw[Int.toNat_natCast,List.getElem?_eq_getElem hN]
 rw[he]
 generalize l[N].name=nm at *
 obtain⟨g0,off0,q,rfl,hg0,hcells⟩:=zbm hr0 hn1
 obtain⟨w1,hw1⟩:∃ w1,Hid (w1=w.alloc (.cells #[.int .i64 2,.int .i64 (N:Int),.int .i64 tk,.int .i64 tn,v0,v1] 89)):=⟨_,rfl⟩
 have hA:Bf A W w1 (.slice a zs.length cap) zs:=by rw[hw1.out];exact h.alloc _
 have hbx:BxT w.heap.size w1 [.int .i64 2,.int .i64 (N:Int),.int .i64 tk,.int .i64 tn,v0,v1] 89:=by rw[hw1.out];exact BxT.new w _ _
 have HF:Hid (∀ v' w',Bf w1 W w' v' (zs++([32,110,105,108,32]++nm))→SayP A W (zs++([32,110,105,108,32]++nm)) (.returned v') w'):=fun v' w' h=>⟨v',rfl,h.back hA.3⟩
 have hA1:=hA.from
 clear hA h
 generalize hQ:SayP A W (zs++([32,110,105,108,32]++nm))=Q
 rw[hQ]at HF;have HQ:Hid (∀ w',K8 w1 w'→w'.cell? ⟨w.heap.size,1,none⟩=some (.int .i64 (N:Int))):=hbx.at (by decide) 1 _ rfl;have HC:Hid _:=hcells;have HG:Hid (∀ w',Later W w'→w'.cell? ⟨g,off+N*2,none⟩=some (.slice (some ⟨g0,off0,none⟩) nm.length q)):=fun w' hw=>by rw[hw.cell (p:=⟨g,off+N*2,none⟩) hg];exact hc0
 have q1:=HQ.out w1.drew (Later.drew _).k8;have hB0:=hA1.later (Later.drew _);have q2:=HG.out w1.drew hB0.2
 obtain⟨X,hX⟩:∃ X,Hid (X=nm.map (Value.int .u8)):=⟨_,rfl⟩
 have hXl:X.length=nm.length:=by rw[hX.out];simp
 have hX1:∀ u∈X,u.oneCell'=true:=by rw[hX.out];exact zbe nm
 rw[←hX.out]at HC;clear hbx hcells hr0 hr1 hc0 hc1 hl hnm he;go_enter Tryz.func55,Tryz.ntmps55;go_wp2_with fail
 rw[←hw1.out]
 go_region_law (first
  | (have _g:=hbf3;(refine zab rfl _ _ 22 rfl W.heap.size 5 i0 (.int .u8 0) 1 1 Tryz.underlying22 hi hz0 hz1 hz2 rfl (by decide) (.slice a3 M3 p3) _ _ rfl hbf3.1 ⟨g0,off0,none⟩ nm.length q X rfl (by rw[hXl,Nat.mul_one]) (HC.out _ hbf3.2) hX1 (by rw[hl3];unfold maxLen;omega) (by rw[hl3];omega) hbf3.2.size ?_;intro v5 w5 o5 g5;have hbf5:=hbf3.put o5 rfl hX.out g5))
  | (refine zad rfl _ _ 22 9 rfl W.heap.size 5 i0 Tryz.underlying22 Tryz.underlying9 hi hz0 hz1 hz2 (.slice a zs.length cap) _ _ rfl hB0.1 _ rfl (by show zs.length+5≤maxLen;unfold maxLen;omega) (by show zs.length+5≤_;omega) hB0.2.size ?_;intro v3 w3 o3 g3;have hbf3:Bf w1 W w3 v3 (zs++[32,110,105,108,32]):=hB0.put o3 rfl rfl g3;have hl3:(zs++[32,110,105,108,32]).length=zs.length+5:=(by simp);have q3:=HQ.out _ hbf3.3;have q4:=HG.out _ hbf3.2;obtain⟨a3,M3,p3,rfl,hM3⟩:=hbf3.shape2)
  | fail "none")
 all_goals
  rw[List.append_assoc]at hbf5;go_wp2_with fail
  go_simp;go_ret;exact HF.out _ _ hbf5
theorem say_4 (A W w:World) (v sv v0 v1:Value) (zs:List Int) (n tk tn:Int) (h:Bf A W w v zs) (hb:zs.length≤1000000) (l:List Sc) (hl:RdL W 2 sv (Sc.dats l)) (h0:0≤n) (h1:n<l.length) (hnm:∀ x∈l,1≤x.name.length∧x.name.length≤1000) :
  Calls Tryz.prog 55 #[v,.agg #[.int .i64 4,.int .i64 n,.int .i64 tk,.int .i64 tn,v0,v1],sv] w (SayP A W (zs++([32,110,101,119,32]++nmAt l n))):=by
 obtain⟨i0,hi,hz0,hz1,hz2⟩:=info_parts Tryz.info5;obtain⟨a,cap,rfl⟩:=h.shape
 obtain⟨N,rfl⟩:∃ N:Nat,n=N:=⟨n.toNat,by omega⟩
 have hN:N<l.length:=by omega
 obtain⟨sa,scap,rfl,hsl⟩:=Sc.slice hl;obtain⟨g,off,u0,u1,rfl,hg,hc0,hc1,hr0,hr1⟩:=Sc.elem hl N hN;obtain⟨hn1,hn2⟩:=hnm l[N] (List.getElem_mem hN);have he:nmAt l (N:Int)=l[N].name:=by unfold nmAt;rw[Int.toNat_natCast,List.getElem?_eq_getElem hN]
 rw[he]
 generalize l[N].name=nm at *
 obtain⟨g0,off0,q,rfl,hg0,hcells⟩:=zbm hr0 hn1
 obtain⟨w1,hw1⟩:∃ w1,Hid (w1=w.alloc (.cells #[.int .i64 4,.int .i64 (N:Int),.int .i64 tk,.int .i64 tn,v0,v1] 89)):=⟨_,rfl⟩
 have hA:Bf A W w1 (.slice a zs.length cap) zs:=by rw[hw1.out];exact h.alloc _
 have hbx:BxT w.heap.size w1 [.int .i64 4,.int .i64 (N:Int),.int .i64 tk,.int .i64 tn,v0,v1] 89:=by rw[hw1.out];exact BxT.new w _ _
 have HF:Hid (∀ v' w',Bf w1 W w' v' (zs++([32,110,101,119,32]++nm))→SayP A W (zs++([32,110,101,119,32]++nm)) (.returned v') w'):=fun v' w' h=>⟨v',rfl,h.back hA.3⟩
 have hA1:=hA.from
 clear hA h
 generalize hQ:SayP A W (zs++([32,110,101,119,32]++nm))=Q
 rw[hQ]at HF;have HQ:Hid (∀ w',K8 w1 w'→w'.cell? ⟨w.heap.size,1,none⟩=some (.int .i64 (N:Int))):=hbx.at (by decide) 1 _ rfl;have HC:Hid _:=hcells;have HG:Hid (∀ w',Later W w'→w'.cell? ⟨g,off+N*2,none⟩=some (.slice (some ⟨g0,off0,none⟩) nm.length q)):=fun w' hw=>by rw[hw.cell (p:=⟨g,off+N*2,none⟩) hg];exact hc0
 have q1:=HQ.out w1.drew (Later.drew _).k8;have hB0:=hA1.later (Later.drew _);have q2:=HG.out w1.drew hB0.2
 obtain⟨X,hX⟩:∃ X,Hid (X=nm.map (Value.int .u8)):=⟨_,rfl⟩
 have hXl:X.length=nm.length:=by rw[hX.out];simp
 have hX1:∀ u∈X,u.oneCell'=true:=by rw[hX.out];exact zbe nm
 rw[←hX.out]at HC;clear hbx hcells hr0 hr1 hc0 hc1 hl hnm he;go_enter Tryz.func55,Tryz.ntmps55;go_wp2_with fail
 rw[←hw1.out]
 go_region_law (first
  | (have _g:=hbf3;(refine zab rfl _ _ 22 rfl W.heap.size 5 i0 (.int .u8 0) 1 1 Tryz.underlying22 hi hz0 hz1 hz2 rfl (by decide) (.slice a3 M3 p3) _ _ rfl hbf3.1 ⟨g0,off0,none⟩ nm.length q X rfl (by rw[hXl,Nat.mul_one]) (HC.out _ hbf3.2) hX1 (by rw[hl3];unfold maxLen;omega) (by rw[hl3];omega) hbf3.2.size ?_;intro v5 w5 o5 g5;have hbf5:=hbf3.put o5 rfl hX.out g5))
  | (refine zad rfl _ _ 22 9 rfl W.heap.size 5 i0 Tryz.underlying22 Tryz.underlying9 hi hz0 hz1 hz2 (.slice a zs.length cap) _ _ rfl hB0.1 _ rfl (by show zs.length+5≤maxLen;unfold maxLen;omega) (by show zs.length+5≤_;omega) hB0.2.size ?_;intro v3 w3 o3 g3;have hbf3:Bf w1 W w3 v3 (zs++[32,110,101,119,32]):=hB0.put o3 rfl rfl g3;have hl3:(zs++[32,110,101,119,32]).length=zs.length+5:=(by simp);have q3:=HQ.out _ hbf3.3;have q4:=HG.out _ hbf3.2;obtain⟨a3,M3,p3,rfl,hM3⟩:=hbf3.shape2)
  | fail "none")
 all_goals
  rw[List.append_assoc]at hbf5;go_wp2_with fail
  go_simp;go_ret;exact HF.out _ _ hbf5
theorem say_7 (A W w:World) (v sv v0 v1:Value) (zs:List Int) (n tk tn:Int) (h:Bf A W w v zs) (m:Nat) (t0 nm:List Int) (hk0:Kid W sv v1 m 0 t0) (hv0:RdN W v0 nm) (hn1:1≤nm.length) (hb:zs.length+t0.length+3+nm.length≤1000000) :
  Calls Tryz.prog 55 #[v,.agg #[.int .i64 7,.int .i64 n,.int .i64 tk,.int .i64 tn,v0,v1],sv] w (SayP A W (zs++(t0++[32,46,32]++nm))):=by
 obtain⟨i0,hi,hz0,hz1,hz2⟩:=info_parts Tryz.info5;obtain⟨a,cap,rfl⟩:=h.shape;obtain⟨hm0,g,off,cap1,k0,n0,tk0,tn0,u0,u1,rfl,hgW,hcl,hcall⟩:=hk0;obtain⟨c0,c1,c2,c3,c4,c5⟩:=hcl w h.2;rw[Nat.zero_mul,Nat.add_zero]at c0 c1 c2 c3 c4 c5;have hgw:g<w.heap.size:=Nat.lt_of_lt_of_le hgW h.2.size;obtain⟨g0,off0,q,rfl,hg0,hcells⟩:=zbm hv0 hn1
 obtain⟨w1,hw1⟩:∃ w1,Hid (w1=w.alloc (.cells #[.int .i64 7,.int .i64 n,.int .i64 tk,.int .i64 tn,.slice (some ⟨g0,off0,none⟩) nm.length q,.slice (some ⟨g,off,none⟩) m cap1] 89)):=⟨_,rfl⟩
 have hA:Bf A W w1 (.slice a zs.length cap) zs:=by rw[hw1.out];exact h.alloc _
 have hbx:BxT w.heap.size w1 [.int .i64 7,.int .i64 n,.int .i64 tk,.int .i64 tn,.slice (some ⟨g0,off0,none⟩) nm.length q,.slice (some ⟨g,off,none⟩) m cap1] 89:=by rw[hw1.out];exact BxT.new w _ _
 have HF:Hid (∀ v' w',Bf w1 W w' v' (zs++(t0++[32,46,32]++nm))→SayP A W (zs++(t0++[32,46,32]++nm)) (.returned v') w'):=fun v' w' h=>⟨v',rfl,h.back hA.3⟩
 have hA1:=hA.from
 clear hA h
 generalize hQ:SayP A W (zs++(t0++[32,46,32]++nm))=Q
 rw[hQ]at HF;have HQ:Hid (∀ w',K8 w1 w'→w'.cell? ⟨w.heap.size,4,none⟩=some (.slice (some ⟨g0,off0,none⟩) nm.length q)):=hbx.at (by decide) 4 _ rfl;have HC:Hid _:=hcells;have HK:=hcall w1 w1 _ _ hA1 (by omega)
 obtain⟨X,hX⟩:∃ X,Hid (X=nm.map (Value.int .u8)):=⟨_,rfl⟩
 have hXl:X.length=nm.length:=by rw[hX.out];simp
 have hX1:∀ u∈X,u.oneCell'=true:=by rw[hX.out];exact zbe nm
 rw[←hX.out]at HC;have hm0':(0:Int)<(m:Int):=by omega
 clear hbx hcells hv0 hcl hcall;obtain rfl:=hw1.out;go_enter Tryz.func55,Tryz.ntmps55;go_wp2_with fail
 refine HK.mono ?_;rintro e w3 ⟨v3,rfl,hb3⟩;have q3:=HQ.out _ hb3.3;have hl3:(zs++t0).length=zs.length+t0.length:=by simp
 obtain⟨a3,M3,p3,rfl,hM3⟩:=hb3.shape2;go_wp2_with (first|(have _g:=hb5;(at_builtin;refine wpList_append_own _ rfl _ _ 22 rfl W.heap.size 5 i0 (.int .u8 0) 1 1 Tryz.underlying22 hi hz0 hz1 hz2 rfl (by decide) (.slice a5 M5 p5) _ _ rfl hb5.1 ⟨g0,off0,none⟩ nm.length q X rfl (by rw[hXl,Nat.mul_one]) (HC.out _ hb5.2) hX1 (by rw[hl5];unfold maxLen;omega) (by rw[hl5];omega) hb5.2.size ?_;intro v7 w7 o7 g7 _))|(at_builtin;refine Go.Lib.wpList_append_own_string _ rfl _ _ 22 9 rfl W.heap.size 5 i0 Tryz.underlying22 Tryz.underlying9 hi hz0 hz1 hz2 (.slice a3 M3 p3) _ _ rfl hb3.1 _ rfl (by rw[hl3];show _+3≤maxLen;unfold maxLen;omega) (by rw[hl3];show _+3≤_;omega) hb3.2.size ?_;intro v5 w5 o5 g5 _;have hb5:=hb3.put o5 (ts:=[32,46,32]) rfl rfl g5;have q5:=HQ.out _ hb5.3;have hl5:(zs++t0++[32,46,32]).length=zs.length+t0.length+3:=(by simp;omega);obtain⟨a5,M5,p5,rfl,hM5⟩:=hb5.shape2))
 have hb7:=hb5.put o7 (ts:=nm) rfl hX.out g7;rw[List.append_assoc,List.append_assoc,← List.append_assoc t0]at hb7;exact HF.out _ _ hb7
theorem say_8 (A W w:World) (v sv v0 v1:Value) (zs:List Int) (n tk tn:Int) (h:Bf A W w v zs) (m:Nat) (t0 t1:List Int) (hk0:Kid W sv v1 m 0 t0) (hk1:Kid W sv v1 m 1 t1) (hb:zs.length+t0.length+2+t1.length+2≤1000000) :
  Calls Tryz.prog 55 #[v,.agg #[.int .i64 8,.int .i64 n,.int .i64 tk,.int .i64 tn,v0,v1],sv] w (SayP A W (zs++(t0++[32,91]++t1++[32,93]))):=by
 obtain⟨i0,hi,hz0,hz1,hz2⟩:=info_parts Tryz.info5;obtain⟨a,cap,rfl⟩:=h.shape;obtain⟨hm0,g,off,cap1,k0,n0,tk0,tn0,u0,u1,rfl,hgW,hcl,hcall⟩:=hk0;obtain⟨c0,c1,c2,c3,c4,c5⟩:=hcl w h.2;rw[Nat.zero_mul,Nat.add_zero]at c0 c1 c2 c3 c4 c5;have hgw:g<w.heap.size:=Nat.lt_of_lt_of_le hgW h.2.size;obtain⟨hm1,g',off',cap1',k1,n1,tk1,tn1,y0,y1,e1,_,hcl1,hcall1⟩:=hk1
 cases e1
 obtain⟨w1,hw1⟩:∃ w1,Hid (w1=w.alloc (.cells #[.int .i64 8,.int .i64 n,.int .i64 tk,.int .i64 tn,v0,.slice (some ⟨g,off,none⟩) m cap1] 89)):=⟨_,rfl⟩
 have hA:Bf A W w1 (.slice a zs.length cap) zs:=by rw[hw1.out];exact h.alloc _
 have hbx:BxT w.heap.size w1 [.int .i64 8,.int .i64 n,.int .i64 tk,.int .i64 tn,v0,.slice (some ⟨g,off,none⟩) m cap1] 89:=by rw[hw1.out];exact BxT.new w _ _
 have HF:Hid (∀ v' w',Bf w1 W w' v' (zs++(t0++[32,91]++t1++[32,93]))→SayP A W (zs++(t0++[32,91]++t1++[32,93])) (.returned v') w'):=fun v' w' h=>⟨v',rfl,h.back hA.3⟩
 have hA1:=hA.from
 clear hA h
 generalize hQ:SayP A W (zs++(t0++[32,91]++t1++[32,93]))=Q
 rw[hQ]at HF;have HQ:Hid (∀ w',K8 w1 w'→w'.cell? ⟨w.heap.size,5,none⟩=some (.slice (some ⟨g,off,none⟩) m cap1)):=hbx.at (by decide) 5 _ rfl;have HC1:Hid (∀ w',Later W w'→w'.cell? ⟨g,off+6,none⟩=some (.int .i64 k1)∧w'.cell? ⟨g,off+6+1,none⟩=some (.int .i64 n1)∧w'.cell? ⟨g,off+6+2,none⟩=some (.int .i64 tk1)∧w'.cell? ⟨g,off+6+3,none⟩=some (.int .i64 tn1)∧w'.cell? ⟨g,off+6+4,none⟩=some y0∧w'.cell? ⟨g,off+6+5,none⟩=some y1):=fun w' hw=>by have:=hcl1 w' hw;rwa [Nat.one_mul]at this
 have HK1:Hid _:=hcall1;have HK:=hcall w1 w1 _ _ hA1 (by omega);have hm0':(0:Int)<(m:Int):=by omega
 have hm1':(1:Int)<(m:Int):=by omega
 clear hbx hcl hcall hcl1 hcall1;obtain rfl:=hw1.out;go_enter Tryz.func55,Tryz.ntmps55;go_wp2_with fail
 refine HK.mono ?_;rintro e w3 ⟨v3,rfl,hb3⟩;have hl3:(zs++t0).length=zs.length+t0.length:=by simp
 obtain⟨a3,M3,p3,rfl,hM3⟩:=hb3.shape2;go_wp2_with (first|(at_builtin;refine Go.Lib.wpList_append_own_string _ rfl _ _ 22 9 rfl W.heap.size 5 i0 Tryz.underlying22 Tryz.underlying9 hi hz0 hz1 hz2 (.slice a3 M3 p3) _ _ rfl hb3.1 _ rfl (by rw[hl3];show _+2≤maxLen;unfold maxLen;omega) (by rw[hl3];show _+2≤_;omega) hb3.2.size ?_;intro v5 w5 o5 g5 _;have hb5:=hb3.put o5 (ts:=[32,91]) rfl rfl g5;have q5:=HQ.out _ hb5.3;obtain⟨d0,d1,d2,d3,d4,d5⟩:=HC1.out _ hb5.2;have hl5:(zs++t0++[32,91]).length=zs.length+t0.length+2:=(by simp;omega);obtain⟨a5,M5,p5,rfl,hM5⟩:=hb5.shape2))
 refine (HK1.out _ _ _ _ hb5 (by rw[hl5];omega)).mono ?_;rintro e w6 ⟨v6,rfl,hb6⟩;have hl6:(zs++t0++[32,91]++t1).length=zs.length+t0.length+2+t1.length:=by simp;omega
 obtain⟨a6,M6,p6,rfl,hM6⟩:=hb6.shape2;go_wp2_with (at_builtin;refine Go.Lib.wpList_append_own_string _ rfl _ _ 22 9 rfl W.heap.size 5 i0 Tryz.underlying22 Tryz.underlying9 hi hz0 hz1 hz2 (.slice a6 M6 p6) _ _ rfl hb6.1 _ rfl (by rw[hl6];show _+2≤maxLen;unfold maxLen;omega) (by rw[hl6];show _+2≤_;omega) hb6.2.size ?_;intro v7 w7 o7 g7 _;have hb7:=hb6.put o7 (ts:=[32,93]) rfl rfl g7)
 rw[show zs++t0++[32,91]++t1++[32,93]=zs++(t0++[32,91]++t1++[32,93]) by simp only[List.append_assoc]]at hb7;exact HF.out _ _ hb7
theorem op_say (n:Int) (w:World) (h0:0≤n) (h1:n<7):Calls Tryz.prog 88 #[.int .i64 n] w fun e w'=>∃ v,e=.returned v∧(v=.string (opS n)∧Later w w'):=by
 refine (op_any n w h0 h1).mono ?_;rintro e w' ⟨rfl,l⟩;exact⟨_,rfl,rfl,l⟩
theorem say_10 (A W w:World) (v sv v0 v1:Value) (zs:List Int) (n tk tn:Int) (h:Bf A W w v zs) (m:Nat) (t0 t1:List Int) (hk0:Kid W sv v1 m 0 t0) (hk1:Kid W sv v1 m 1 t1) (hn0:0≤n) (hn7:n<7) (hb:zs.length+2+t0.length+(1+(opL n).length)+t1.length+2≤1000000) :
  Calls Tryz.prog 55 #[v,.agg #[.int .i64 10,.int .i64 n,.int .i64 tk,.int .i64 tn,v0,v1],sv] w (SayP A W (zs++([32,40]++t0++(32::opL n)++t1++[32,41]))):=by
 obtain⟨i0,hi,hz0,hz1,hz2⟩:=info_parts Tryz.info5;obtain⟨a,cap,rfl⟩:=h.shape;obtain⟨hm0,g,off,cap1,k0,n0,tk0,tn0,u0,u1,rfl,hgW,hcl,hcall⟩:=hk0;obtain⟨c0,c1,c2,c3,c4,c5⟩:=hcl w h.2;rw[Nat.zero_mul,Nat.add_zero]at c0 c1 c2 c3 c4 c5;have hgw:g<w.heap.size:=Nat.lt_of_lt_of_le hgW h.2.size;obtain⟨hm1,g',off',cap1',k1,n1,tk1,tn1,y0,y1,e1,_,hcl1,hcall1⟩:=hk1
 cases e1
 obtain⟨w1,hw1⟩:∃ w1,Hid (w1=w.alloc (.cells #[.int .i64 10,.int .i64 n,.int .i64 tk,.int .i64 tn,v0,.slice (some ⟨g,off,none⟩) m cap1] 89)):=⟨_,rfl⟩
 have hA:Bf A W w1 (.slice a zs.length cap) zs:=by rw[hw1.out];exact h.alloc _
 have hbx:BxT w.heap.size w1 [.int .i64 10,.int .i64 n,.int .i64 tk,.int .i64 tn,v0,.slice (some ⟨g,off,none⟩) m cap1] 89:=by rw[hw1.out];exact BxT.new w _ _
 have HF:Hid (∀ v' w',Bf w1 W w' v' (zs++([32,40]++t0++(32::opL n)++t1++[32,41]))→SayP A W (zs++([32,40]++t0++(32::opL n)++t1++[32,41])) (.returned v') w'):=fun v' w' h=>⟨v',rfl,h.back hA.3⟩
 have hA1:=hA.from
 clear hA h
 generalize hQ:SayP A W (zs++([32,40]++t0++(32::opL n)++t1++[32,41]))=Q
 rw[hQ]at HF;have HQ:Hid (∀ w',K8 w1 w'→w'.cell? ⟨w.heap.size,5,none⟩=some (.slice (some ⟨g,off,none⟩) m cap1)):=hbx.at (by decide) 5 _ rfl;have HC1:Hid (∀ w',Later W w'→w'.cell? ⟨g,off+6,none⟩=some (.int .i64 k1)∧w'.cell? ⟨g,off+6+1,none⟩=some (.int .i64 n1)∧w'.cell? ⟨g,off+6+2,none⟩=some (.int .i64 tk1)∧w'.cell? ⟨g,off+6+3,none⟩=some (.int .i64 tn1)∧w'.cell? ⟨g,off+6+4,none⟩=some y0∧w'.cell? ⟨g,off+6+5,none⟩=some y1):=fun w' hw=>by have:=hcl1 w' hw;rwa [Nat.one_mul]at this
 have HK1:Hid _:=hcall1;have HQn:Hid (∀ w',K8 w1 w'→w'.cell? ⟨w.heap.size,1,none⟩=some (.int .i64 n)):=hbx.at (by decide) 1 _ rfl;have HC0:Hid (∀ w',Later W w'→w'.cell? ⟨g,off,none⟩=some (.int .i64 k0)∧w'.cell? ⟨g,off+1,none⟩=some (.int .i64 n0)∧w'.cell? ⟨g,off+2,none⟩=some (.int .i64 tk0)∧w'.cell? ⟨g,off+3,none⟩=some (.int .i64 tn0)∧w'.cell? ⟨g,off+4,none⟩=some u0∧w'.cell? ⟨g,off+5,none⟩=some u1):=fun w' hw=>by have:=hcl w' hw;rwa [Nat.zero_mul,Nat.add_zero]at this
 have HK0:Hid _:=hcall;have HD:Hid (∀ w',Calls Tryz.prog 88 #[.int .i64 n] w' fun e w''=>∃ v,e=.returned v∧(v=.string (opS n)∧Later w' w'')):=fun w'=>op_say n w' hn0 hn7;obtain⟨hs1,hs2,hs3⟩:=opS_cells hn0 hn7
 generalize opS n=S at *
 generalize opL n=ol at *
 have hm0':(0:Int)<(m:Int):=by omega
 have hm1':(1:Int)<(m:Int):=by omega
 have hB0:=hA1.later (Later.drew _);have q0:=HQ.out w1.drew hB0.3;obtain⟨b0,b1,b2,b3,b4,b5⟩:=HC0.out w1.drew hB0.2;clear hbx hcl hcall hcl1 hcall1 c0 c1 c2 c3 c4 c5;go_enter Tryz.func55,Tryz.ntmps55;go_wp2_with fail
 rw[←hw1.out]
 go_region_law (first
  | ((have _g:=hb3);(refine zaa rfl 55 en_say _ _ rfl [.slice a3 M3 p3,.agg #[.int .i64 k0,.int .i64 n0,.int .i64 tk0,.int .i64 tn0,u0,u1],sv] rfl (fun v w'=>Bf w1 W w' v (zs++[32,40]++t0)) (HK0.out _ _ _ _ hb3 (by rw[hl3];omega)) ?_;intro v4 w4 hb4;obtain⟨a4,M4,p4,rfl,hM4⟩:=hb4.shape2))
  | (refine zad rfl _ _ 22 9 rfl W.heap.size 5 i0 Tryz.underlying22 Tryz.underlying9 hi hz0 hz1 hz2 (.slice a zs.length cap) _ _ rfl hB0.1 _ rfl (by show _+2≤maxLen;unfold maxLen;omega) (by show _+2≤_;omega) hB0.2.size ?_;intro v3 w3 o3 g3;have hb3:Bf w1 W w3 v3 (zs++[32,40]):=hB0.put o3 rfl rfl g3;have hl3:(zs++[32,40]).length=zs.length+2:=(by simp);have q3:=HQ.out _ hb3.3;obtain⟨d0,d1,d2,d3,d4,d5⟩:=HC0.out _ hb3.2;obtain⟨a3,M3,p3,rfl,hM3⟩:=hb3.shape2)
  | fail "none")
 all_goals
  have hl4:(zs++[32,40]++t0).length=zs.length+2+t0.length:=by simp;omega
  have hB4:=hb4.later (Later.drew _);have hB5:=(hb4.alloc (.cells #[.int .u8 32] 5)).later (Later.drew _);have r1:=HQn.out w4.drew hB4.3;have r2:=HQn.out (w4.alloc (.cells #[.int .u8 32] 5)).drew hB5.3;have hS5:=Later.ones (Later.drew (w4.alloc (.cells #[.int .u8 32] 5))) (g:=w4.heap.size) (by simp) (zaq w4 32);have hsz:w4.heap.size<(w4.alloc (.cells #[.int .u8 32] 5)).drew.heap.size:=by show w4.heap.size<(w4.heap.push _).size;simp
  go_wp2_with fail
  go_region_law (first
   | ((have _g:=hfin);(refine zad rfl _ _ 22 9 rfl W.heap.size 5 i0 Tryz.underlying22 Tryz.underlying9 hi hz0 hz1 hz2 (.slice a6 M6 p6) _ _ rfl hfin.1 S rfl (by rw[hl6,hs2];unfold maxLen;omega) (by rw[hl6,hs2];omega) hfin.2.size ?_;intro v9 w9 o9 g9;have hb9:=hfin.put o9 hs2 hs1 g9))
   | (refine zab rfl _ _ 22 rfl W.heap.size 5 i0 (.int .u8 0) 1 1 Tryz.underlying22 hi hz0 hz1 hz2 rfl (by decide) (.slice a4 M4 p4) _ _ rfl (hB5).1 ⟨_,0,none⟩ 1 1 [.int .u8 32] rfl rfl (hS5) (by simp[Value.oneCell']) (by rw[hl4];unfold maxLen;omega) (by rw[hl4];omega) (hB5).2.size ?_;intro v6 w6 o6 g6;have hb6:Bf w1 W w6 v6 (zs++[32,40]++t0++[32]):=hB5.put o6 rfl rfl g6;have hl6:(zs++[32,40]++t0++[32]).length=zs.length+2+t0.length+1:=(by simp;omega);have r6:=HQn.out _ hb6.3;obtain⟨a6,M6,p6,rfl,hM6⟩:=hb6.shape2)
   | (refine zab rfl _ _ 22 rfl W.heap.size 5 i0 (.int .u8 0) 1 1 Tryz.underlying22 hi hz0 hz1 hz2 rfl (by decide) (.slice a4 M4 p4) _ _ rfl (hB5.later l8).1 ⟨_,0,none⟩ 1 1 [.int .u8 32] rfl rfl (Later.ones l8 hsz hS5) (by simp[Value.oneCell']) (by rw[hl4];unfold maxLen;omega) (by rw[hl4];omega) (hB5.later l8).2.size ?_;intro v6 w6 o6 g6;have hfin:Bf w1 W w6 v6 (zs++[32,40]++t0++[32]):=(hB5.later l8).put o6 rfl rfl g6;have hl6:(zs++[32,40]++t0++[32]).length=zs.length+2+t0.length+1:=(by simp;omega);obtain⟨a6,M6,p6,rfl,hM6⟩:=hfin.shape2)
   | (refine zab rfl _ _ 22 rfl W.heap.size 5 i0 (.int .u8 0) 1 1 Tryz.underlying22 hi hz0 hz1 hz2 rfl (by decide) (.slice a4 M4 p4) _ _ rfl ((hB4.later l8).alloc _).1 ⟨_,0,none⟩ 1 1 [.int .u8 32] rfl rfl (zaq _ _) (by simp[Value.oneCell']) (by rw[hl4];unfold maxLen;omega) (by rw[hl4];omega) ((hB4.later l8).alloc _).2.size ?_;intro v6 w6 o6 g6;have hfin:Bf w1 W w6 v6 (zs++[32,40]++t0++[32]):=((hB4.later l8).alloc _).put o6 rfl rfl g6;have hl6:(zs++[32,40]++t0++[32]).length=zs.length+2+t0.length+1:=(by simp;omega);obtain⟨a6,M6,p6,rfl,hM6⟩:=hfin.shape2)
   | ((fail_if_success (have _g:=hb6));refine zaa rfl 88 en_op _ _ rfl [.int .i64 n] rfl (fun v w'=>v=.string S∧Later _ w') (HD.out _) ?_;rintro _ w8 ⟨rfl,l8⟩)
   | ((have _g:=hb6);(refine zaa rfl 88 en_op _ _ rfl [.int .i64 n] rfl (fun v w'=>v=.string S∧Later _ w') (HD.out _) ?_;rintro _ w8 ⟨rfl,l8⟩;have hfin:=hb6.later l8))
   | fail "none")
  all_goals
   have hl9:((zs++[32,40]++t0++[32])++ol).length=zs.length+2+t0.length+1+ol.length:=by simp;omega
   have q9:=HQ.out _ hb9.3;obtain⟨f0,f1,f2,f3,f4,f5⟩:=HC1.out _ hb9.2;obtain⟨a9,M9,p9,rfl,hM9⟩:=hb9.shape2;go_wp2_with fail
   refine (HK1.out _ _ _ _ hb9 (by rw[hl9];omega)).mono ?_;rintro e wz ⟨vz,rfl,hbz⟩;have hlz:((zs++[32,40]++t0++[32])++ol++t1).length=zs.length+2+t0.length+1+ol.length+t1.length:=by simp;omega
   obtain⟨az,Mz,pz,rfl,hMz⟩:=hbz.shape2;go_wp2_with (at_builtin;refine Go.Lib.wpList_append_own_string _ rfl _ _ 22 9 rfl W.heap.size 5 i0 Tryz.underlying22 Tryz.underlying9 hi hz0 hz1 hz2 (.slice az Mz pz) _ _ rfl hbz.1 _ rfl (by rw[hlz];show _+2≤maxLen;unfold maxLen;omega) (by rw[hlz];show _+2≤_;omega) hbz.2.size ?_;intro v7 w7 o7 g7 _;have hb7:=hbz.put o7 (ts:=[32,41]) rfl rfl g7)
   rw[show (zs++[32,40]++t0++[32])++ol++t1++[32,41]=zs++([32,40]++t0++(32::ol)++t1++[32,41]) by simp]at hb7;exact HF.out _ _ hb7
theorem zbi {α:Type}(x:α):∃ T,Hid (T=x):=⟨x,rfl⟩
def bytesOf (s:ByteArray):List Int:=s.data.toList.map fun b=>(b.toNat:Int)
theorem bytesOf_len (s:ByteArray):(bytesOf s).length=s.size:=by
 unfold bytesOf;rw[List.length_map,Array.length_toList];rfl
theorem bytesOf_nums (nm:List Int) (h:∀ z∈nm,0≤z∧z≤255):bytesOf (strOfNums nm)=nm:=by
 unfold bytesOf;rw[strOfNums_data,List.map_map]
 conv=>rhs;rw[←List.map_id nm]
 refine List.map_congr_left fun z hz=>?_;obtain⟨h0,h1⟩:=h z hz;show ((UInt8.ofNat z.toNat).toNat:Int)=z;rw[UInt8.toNat_ofNat'];omega
theorem set_grown (w:World) (K i:Nat) (u:Value):w.grownBy (w.setCell ⟨K,i,none⟩ u) (some K):=⟨rfl,rfl,rfl,by simp,fun k _ hk=>heap_setCell_other w ⟨K,i,none⟩ k u (fun e=>hk (by simp[e]))⟩
def StrL (w:World) (nm:List Int) (e:Ending) (w':World):Prop:=∃ s,e=.returned (.string s)∧bytesOf s=nm∧Later w w'
end Go.Proofs.YtgholpilmdebmaaGreatDoor
