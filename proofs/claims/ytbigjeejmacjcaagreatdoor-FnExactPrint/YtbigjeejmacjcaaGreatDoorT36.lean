/- Expressions put behind a text, by the model: ints and floats. -/
import Derived.Test.YtbigjeejmacjcaaGreatDoorT35
namespace Go.Proofs.YtbigjeejmacjcaaGreatDoor
open Go.RowKit Go.Lib
theorem dec_say (n : Int) (w : World) (hn : InR n) : Calls Tryz.prog 74 #[.int .i64 n] w (SayP w w (decL n)) := by
  refine (dec_any n w hn).mono ?_
  rintro e w' ⟨v, rfl, o, l⟩
  exact ⟨v, rfl, o, l, l.k8⟩
theorem decL_len (n : Int) : 1 ≤ (decL n).length ∧ (decL n).length ≤ 21 := by
  unfold decL
  have h1 := digF_len 20 (-n).toNat
  have h2 := digF_len 20 n.toNat
  have h3 : 0 < (digF 20 n.toNat).length := digF_pos 19 n.toNat
  split
  · rw [List.length_cons]; omega
  · omega
/-- Another row of bytes stays, where one's own grows. -/
theorem Bf.keep {X w w' : World} {v2 : Value} {ys : List Int} {vb : Option Nat} (h : Bf X X w v2 ys) (g : w.grownBy w' vb) (hlt : ∀ b, vb = some b → b < X.heap.size) : w'.ownsRow X.heap.size 5 1 v2 ys.length (ys.map (Value.int .u8)) := by
  refine h.1.kept g ?_
  cases hv : v2.ownBlock with
  | none => exact .inl rfl
  | some b2 =>
    refine .inr fun e => ?_
    have h1 := (h.1.lt b2 hv).1
    have h2 := hlt b2 e.symm
    omega
theorem Later.ones {w w' : World} {g : Nat} {X : List Value} (hl : Later w w') (hg : g < w.heap.size) (h : ∀ j u, X[j]? = some u → w.cell? ((⟨g, 0, none⟩ : Addr).add j) = some u) : ∀ j u, X[j]? = some u → w'.cell? ((⟨g, 0, none⟩ : Addr).add j) = some u := fun j u hj => by
  have := h j u hj
  rw [Addr.add_lit] at this ⊢
  rw [hl.cell (p := ⟨g, 0 + j, none⟩) hg]
  exact this
set_option maxRecDepth 20000 in
set_option maxHeartbeats 4000000 in
theorem say_0 (A W w : World) (v sv v0 v1 : Value) (zs : List Int) (n tk tn : Int) (h : Bf A W w v zs) (hb : zs.length ≤ 1000000) (hn : InR n) :
    Calls Tryz.prog 53 #[v, .agg #[.int .i64 0, .int .i64 n, .int .i64 tk, .int .i64 tn, v0, v1], sv] w (SayP A W (zs ++ 32 :: decL n)) := by
  obtain ⟨i0, hi, hz0, hz1, hz2⟩ := info_parts Tryz.info5
  obtain ⟨a, cap, rfl⟩ := h.shape
  have hys := decL_len n
  have HD : Hid (∀ w', Calls Tryz.prog 74 #[.int .i64 n] w' (SayP w' w' (decL n))) := fun w' => dec_say n w' hn
  generalize decL n = ys at *
  obtain ⟨w1, hw1⟩ : ∃ w1, Hid (w1 = w.alloc (.cells #[.int .i64 0, .int .i64 n, .int .i64 tk, .int .i64 tn, v0, v1] 107)) := ⟨_, rfl⟩
  have hA : Bf A W w1 (.slice a zs.length cap) zs := by rw [hw1.out]; exact h.alloc _
  have hbx : BxT w.heap.size w1 [.int .i64 0, .int .i64 n, .int .i64 tk, .int .i64 tn, v0, v1] 107 := by rw [hw1.out]; exact BxT.new w _ _
  have HQ : Hid (∀ w', K8 w1 w' → w'.cell? ⟨w.heap.size, 1, none⟩ = some (.int .i64 n)) := fun w' k => (hbx.k8 k (by decide)).cell 1 _ rfl
  have q1 := HQ.out w1.drew (Later.drew _).k8
  have q1' := HQ.out (w1.alloc (.cells #[.int .u8 32] 5)).drew ((later1 _ _).trans (Later.drew _)).k8
  have HF : Hid (∀ v' w', Bf w1 W w' v' (zs ++ [32] ++ ys) → SayP A W (zs ++ 32 :: ys) (.returned v') w') := fun v' w' h => ⟨v', rfl, by have h2 := h.back hA.3; rwa [List.append_assoc] at h2⟩
  have hB0 := hA.from.later (Later.drew _)
  have hB1 := (hA.from.alloc (.cells #[.int .u8 32] 5)).later (Later.drew _)
  have hS1 := Later.ones (Later.drew (w1.alloc (.cells #[.int .u8 32] 5))) (g := w1.heap.size) (by simp) (new_oneb w1 32)
  have hlt0 : ∀ b, Value.ownBlock (.slice a zs.length cap) = some b → b < w1.drew.heap.size := fun b hb => (hB0.1.lt b hb).2
  have hlt1 : ∀ b, Value.ownBlock (.slice a zs.length cap) = some b → b < (w1.alloc (.cells #[.int .u8 32] 5)).drew.heap.size := fun b hb => (hB1.1.lt b hb).2
  have hsz : w1.heap.size < (w1.alloc (.cells #[.int .u8 32] 5)).drew.heap.size := by show w1.heap.size < (w1.heap.push _).size; simp
  clear hbx hA h
  generalize hQ : SayP A W (zs ++ 32 :: ys) = Q
  rw [hQ] at HF
  go_enter Tryz.func53, Tryz.ntmps53
  go_wp2_with fail
  rw [← hw1.out]
  go_region_law (first
    | (have _g := hfin; (refine step_append_own2 rfl _ _ 27 rfl W.heap.size 5 i0 (.int .u8 0) 1 1 Tryz.underlying27 hi hz0 hz1 hz2 rfl (by decide) (.slice a3 M3 p3) _ _ rfl hfin.1 ⟨g4, 0, none⟩ ys.length q4 (ys.map (Value.int .u8)) rfl (by rw [List.length_map, Nat.mul_one]) hcf (one_all ys) (by rw [hl3]; unfold maxLen; omega) (by rw [hl3]; omega) hfin.2.size ?_; intro v5 w5 o5 g5; have hbf5 := hfin.put o5 rfl rfl g5))
    | (refine step_append_own2 rfl _ _ 27 rfl W.heap.size 5 i0 (.int .u8 0) 1 1 Tryz.underlying27 hi hz0 hz1 hz2 rfl (by decide) (.slice a zs.length cap) _ _ rfl (hB1).1 ⟨_, 0, none⟩ 1 1 [.int .u8 32] rfl rfl (hS1) (by simp [Value.oneCell']) (by unfold maxLen; omega) (by omega) (hB1).2.size ?_; intro v3 w3 o3 g3; have hbf3 : Bf w1 W w3 v3 (zs ++ [32]) := hB1.put o3 rfl rfl g3; have hl3 : (zs ++ [32]).length = zs.length + 1 := (by simp); have q3 := HQ.out _ hbf3.3; obtain ⟨a3, M3, p3, rfl, hM3⟩ := hbf3.shape2)
    | (refine step_append_own2 rfl _ _ 27 rfl W.heap.size 5 i0 (.int .u8 0) 1 1 Tryz.underlying27 hi hz0 hz1 hz2 rfl (by decide) (.slice a zs.length cap) _ _ rfl (hB1.later hd4.2).1 ⟨_, 0, none⟩ 1 1 [.int .u8 32] rfl rfl (Later.ones hd4.2 hsz hS1) (by simp [Value.oneCell']) (by unfold maxLen; omega) (by omega) (hB1.later hd4.2).2.size ?_; intro v3 w3 o3 g3; have hfin : Bf w1 W w3 v3 (zs ++ [32]) := (hB1.later hd4.2).put o3 rfl rfl g3; have hl3 : (zs ++ [32]).length = zs.length + 1 := (by simp); have hrow := hd4.keep g3 hlt1; obtain ⟨g5, q5, e5, _, _, hcf⟩ := row_cells hrow (by omega); cases e5; obtain ⟨a3, M3, p3, rfl, hM3⟩ := hfin.shape2)
    | (refine step_append_own2 rfl _ _ 27 rfl W.heap.size 5 i0 (.int .u8 0) 1 1 Tryz.underlying27 hi hz0 hz1 hz2 rfl (by decide) (.slice a zs.length cap) _ _ rfl ((hB0.later hd4.2).alloc _).1 ⟨_, 0, none⟩ 1 1 [.int .u8 32] rfl rfl (new_oneb _ _) (by simp [Value.oneCell']) (by unfold maxLen; omega) (by omega) ((hB0.later hd4.2).alloc _).2.size ?_; intro v3 w3 o3 g3; have hfin : Bf w1 W w3 v3 (zs ++ [32]) := ((hB0.later hd4.2).alloc _).put o3 rfl rfl g3; have hl3 : (zs ++ [32]).length = zs.length + 1 := (by simp); have hrow := (hd4.alloc _).keep g3 hlt0; obtain ⟨g5, q5, e5, _, _, hcf⟩ := row_cells hrow (by omega); cases e5; obtain ⟨a3, M3, p3, rfl, hM3⟩ := hfin.shape2)
    | ((fail_if_success (have _g := hbf3)); refine step_call rfl 74 en_dec _ _ rfl [.int .i64 n] rfl (fun v w' => Bf _ _ w' v ys) (HD.out _) ?_; intro v4 w4 hd4; obtain ⟨g4, q4, rfl, hb4, _, hcf0⟩ := row_cells hd4.1 (by omega))
    | (have _g := hbf3; (refine step_call rfl 74 en_dec _ _ rfl [.int .i64 n] rfl (fun v w' => Bf _ _ w' v ys) (HD.out _) ?_; intro v4 w4 hd4; have hfin := hbf3.later hd4.2; obtain ⟨g4, q4, rfl, hb4, _, hcf⟩ := row_cells hd4.1 (by omega)))
    | fail "none")
  all_goals
    go_wp2_with fail
    go_simp
    go_ret
    exact HF.out _ _ hbf5
theorem hexL_len2 (n : Int) : 1 ≤ (hexL n).length ∧ (hexL n).length ≤ 21 := by rw [hexL_len]; exact ⟨by decide, by decide⟩
set_option maxRecDepth 20000 in
set_option maxHeartbeats 4000000 in
theorem say_1 (A W w : World) (v sv v0 v1 : Value) (zs : List Int) (n tk tn : Int) (h : Bf A W w v zs) (hb : zs.length ≤ 1000000) :
    Calls Tryz.prog 53 #[v, .agg #[.int .i64 1, .int .i64 n, .int .i64 tk, .int .i64 tn, v0, v1], sv] w (SayP A W (zs ++ 32 :: hexL n)) := by
  obtain ⟨i0, hi, hz0, hz1, hz2⟩ := info_parts Tryz.info5
  obtain ⟨a, cap, rfl⟩ := h.shape
  have hys := hexL_len2 n
  have HD : Hid (∀ w', Calls Tryz.prog 75 #[.int .i64 n] w' (SayP w' w' (hexL n))) := fun w' => hex_any n w'
  generalize hexL n = ys at *
  obtain ⟨w1, hw1⟩ : ∃ w1, Hid (w1 = w.alloc (.cells #[.int .i64 1, .int .i64 n, .int .i64 tk, .int .i64 tn, v0, v1] 107)) := ⟨_, rfl⟩
  have hA : Bf A W w1 (.slice a zs.length cap) zs := by rw [hw1.out]; exact h.alloc _
  have hbx : BxT w.heap.size w1 [.int .i64 1, .int .i64 n, .int .i64 tk, .int .i64 tn, v0, v1] 107 := by rw [hw1.out]; exact BxT.new w _ _
  have HQ : Hid (∀ w', K8 w1 w' → w'.cell? ⟨w.heap.size, 1, none⟩ = some (.int .i64 n)) := fun w' k => (hbx.k8 k (by decide)).cell 1 _ rfl
  have q1 := HQ.out w1.drew (Later.drew _).k8
  have q1' := HQ.out (w1.alloc (.cells #[.int .u8 32] 5)).drew ((later1 _ _).trans (Later.drew _)).k8
  have HF : Hid (∀ v' w', Bf w1 W w' v' (zs ++ [32] ++ ys) → SayP A W (zs ++ 32 :: ys) (.returned v') w') := fun v' w' h => ⟨v', rfl, by have h2 := h.back hA.3; rwa [List.append_assoc] at h2⟩
  have hB0 := hA.from.later (Later.drew _)
  have hB1 := (hA.from.alloc (.cells #[.int .u8 32] 5)).later (Later.drew _)
  have hS1 := Later.ones (Later.drew (w1.alloc (.cells #[.int .u8 32] 5))) (g := w1.heap.size) (by simp) (new_oneb w1 32)
  have hlt0 : ∀ b, Value.ownBlock (.slice a zs.length cap) = some b → b < w1.drew.heap.size := fun b hb => (hB0.1.lt b hb).2
  have hlt1 : ∀ b, Value.ownBlock (.slice a zs.length cap) = some b → b < (w1.alloc (.cells #[.int .u8 32] 5)).drew.heap.size := fun b hb => (hB1.1.lt b hb).2
  have hsz : w1.heap.size < (w1.alloc (.cells #[.int .u8 32] 5)).drew.heap.size := by show w1.heap.size < (w1.heap.push _).size; simp
  clear hbx hA h
  generalize hQ : SayP A W (zs ++ 32 :: ys) = Q
  rw [hQ] at HF
  go_enter Tryz.func53, Tryz.ntmps53
  go_wp2_with fail
  rw [← hw1.out]
  go_region_law (first
    | (have _g := hfin; (refine step_append_own2 rfl _ _ 27 rfl W.heap.size 5 i0 (.int .u8 0) 1 1 Tryz.underlying27 hi hz0 hz1 hz2 rfl (by decide) (.slice a3 M3 p3) _ _ rfl hfin.1 ⟨g4, 0, none⟩ ys.length q4 (ys.map (Value.int .u8)) rfl (by rw [List.length_map, Nat.mul_one]) hcf (one_all ys) (by rw [hl3]; unfold maxLen; omega) (by rw [hl3]; omega) hfin.2.size ?_; intro v5 w5 o5 g5; have hbf5 := hfin.put o5 rfl rfl g5))
    | (refine step_append_own2 rfl _ _ 27 rfl W.heap.size 5 i0 (.int .u8 0) 1 1 Tryz.underlying27 hi hz0 hz1 hz2 rfl (by decide) (.slice a zs.length cap) _ _ rfl (hB1).1 ⟨_, 0, none⟩ 1 1 [.int .u8 32] rfl rfl (hS1) (by simp [Value.oneCell']) (by unfold maxLen; omega) (by omega) (hB1).2.size ?_; intro v3 w3 o3 g3; have hbf3 : Bf w1 W w3 v3 (zs ++ [32]) := hB1.put o3 rfl rfl g3; have hl3 : (zs ++ [32]).length = zs.length + 1 := (by simp); have q3 := HQ.out _ hbf3.3; obtain ⟨a3, M3, p3, rfl, hM3⟩ := hbf3.shape2)
    | (refine step_append_own2 rfl _ _ 27 rfl W.heap.size 5 i0 (.int .u8 0) 1 1 Tryz.underlying27 hi hz0 hz1 hz2 rfl (by decide) (.slice a zs.length cap) _ _ rfl (hB1.later hd4.2).1 ⟨_, 0, none⟩ 1 1 [.int .u8 32] rfl rfl (Later.ones hd4.2 hsz hS1) (by simp [Value.oneCell']) (by unfold maxLen; omega) (by omega) (hB1.later hd4.2).2.size ?_; intro v3 w3 o3 g3; have hfin : Bf w1 W w3 v3 (zs ++ [32]) := (hB1.later hd4.2).put o3 rfl rfl g3; have hl3 : (zs ++ [32]).length = zs.length + 1 := (by simp); have hrow := hd4.keep g3 hlt1; obtain ⟨g5, q5, e5, _, _, hcf⟩ := row_cells hrow (by omega); cases e5; obtain ⟨a3, M3, p3, rfl, hM3⟩ := hfin.shape2)
    | (refine step_append_own2 rfl _ _ 27 rfl W.heap.size 5 i0 (.int .u8 0) 1 1 Tryz.underlying27 hi hz0 hz1 hz2 rfl (by decide) (.slice a zs.length cap) _ _ rfl ((hB0.later hd4.2).alloc _).1 ⟨_, 0, none⟩ 1 1 [.int .u8 32] rfl rfl (new_oneb _ _) (by simp [Value.oneCell']) (by unfold maxLen; omega) (by omega) ((hB0.later hd4.2).alloc _).2.size ?_; intro v3 w3 o3 g3; have hfin : Bf w1 W w3 v3 (zs ++ [32]) := ((hB0.later hd4.2).alloc _).put o3 rfl rfl g3; have hl3 : (zs ++ [32]).length = zs.length + 1 := (by simp); have hrow := (hd4.alloc _).keep g3 hlt0; obtain ⟨g5, q5, e5, _, _, hcf⟩ := row_cells hrow (by omega); cases e5; obtain ⟨a3, M3, p3, rfl, hM3⟩ := hfin.shape2)
    | ((fail_if_success (have _g := hbf3)); refine step_call rfl 75 en_hex _ _ rfl [.int .i64 n] rfl (fun v w' => Bf _ _ w' v ys) (HD.out _) ?_; intro v4 w4 hd4; obtain ⟨g4, q4, rfl, hb4, _, hcf0⟩ := row_cells hd4.1 (by omega))
    | (have _g := hbf3; (refine step_call rfl 75 en_hex _ _ rfl [.int .i64 n] rfl (fun v w' => Bf _ _ w' v ys) (HD.out _) ?_; intro v4 w4 hd4; have hfin := hbf3.later hd4.2; obtain ⟨g4, q4, rfl, hb4, _, hcf⟩ := row_cells hd4.1 (by omega)))
    | fail "none")
  all_goals
    go_wp2_with fail
    go_simp
    go_ret
    exact HF.out _ _ hbf5
end Go.Proofs.YtbigjeejmacjcaaGreatDoor
