/- Expressions put behind a text, by the model: operations. -/
import Derived.Test.YtbigjeejmacjcaaGreatDoorT38
namespace Go.Proofs.YtbigjeejmacjcaaGreatDoor
open Go.RowKit Go.Lib
theorem op_say (n : Int) (w : World) (h0 : 0 ≤ n) (h1 : n < 7) : Calls Tryz.prog 76 #[.int .i64 n] w fun e w' => ∃ v, e = .returned v ∧ (v = .string (opS n) ∧ Later w w') := by
  refine (op_any n w h0 h1).mono ?_
  rintro e w' ⟨rfl, l⟩
  exact ⟨_, rfl, rfl, l⟩
set_option maxRecDepth 20000 in
set_option maxHeartbeats 4000000 in
theorem say_10 (A W w : World) (v sv v0 v1 : Value) (zs : List Int) (n tk tn : Int) (h : Bf A W w v zs) (m : Nat) (t0 t1 : List Int) (hk0 : Kid W sv v1 m 0 t0) (hk1 : Kid W sv v1 m 1 t1) (hn0 : 0 ≤ n) (hn7 : n < 7) (hb : zs.length + 2 + t0.length + (1 + (opL n).length) + t1.length + 2 ≤ 1000000) :
    Calls Tryz.prog 53 #[v, .agg #[.int .i64 10, .int .i64 n, .int .i64 tk, .int .i64 tn, v0, v1], sv] w (SayP A W (zs ++ ([32, 40] ++ t0 ++ (32 :: opL n) ++ t1 ++ [32, 41]))) := by
  obtain ⟨i0, hi, hz0, hz1, hz2⟩ := info_parts Tryz.info5
  obtain ⟨a, cap, rfl⟩ := h.shape
  obtain ⟨hm0, g, off, cap1, k0, n0, tk0, tn0, u0, u1, rfl, hgW, hcl, hcall⟩ := hk0
  obtain ⟨c0, c1, c2, c3, c4, c5⟩ := hcl w h.2
  rw [Nat.zero_mul, Nat.add_zero] at c0 c1 c2 c3 c4 c5
  have hgw : g < w.heap.size := Nat.lt_of_lt_of_le hgW h.2.size
  obtain ⟨hm1, g', off', cap1', k1, n1, tk1, tn1, y0, y1, e1, _, hcl1, hcall1⟩ := hk1
  cases e1
  obtain ⟨w1, hw1⟩ : ∃ w1, Hid (w1 = w.alloc (.cells #[.int .i64 10, .int .i64 n, .int .i64 tk, .int .i64 tn, v0, .slice (some ⟨g, off, none⟩) m cap1] 107)) := ⟨_, rfl⟩
  have hA : Bf A W w1 (.slice a zs.length cap) zs := by rw [hw1.out]; exact h.alloc _
  have hbx : BxT w.heap.size w1 [.int .i64 10, .int .i64 n, .int .i64 tk, .int .i64 tn, v0, .slice (some ⟨g, off, none⟩) m cap1] 107 := by rw [hw1.out]; exact BxT.new w _ _
  have HF : Hid (∀ v' w', Bf w1 W w' v' (zs ++ ([32, 40] ++ t0 ++ (32 :: opL n) ++ t1 ++ [32, 41])) → SayP A W (zs ++ ([32, 40] ++ t0 ++ (32 :: opL n) ++ t1 ++ [32, 41])) (.returned v') w') := fun v' w' h => ⟨v', rfl, h.back hA.3⟩
  have hA1 := hA.from
  clear hA h
  generalize hQ : SayP A W (zs ++ ([32, 40] ++ t0 ++ (32 :: opL n) ++ t1 ++ [32, 41])) = Q
  rw [hQ] at HF
  have HQ : Hid (∀ w', K8 w1 w' → w'.cell? ⟨w.heap.size, 5, none⟩ = some (.slice (some ⟨g, off, none⟩) m cap1)) := hbx.at (by decide) 5 _ rfl
  have HC1 : Hid (∀ w', Later W w' → w'.cell? ⟨g, off + 6, none⟩ = some (.int .i64 k1) ∧ w'.cell? ⟨g, off + 6 + 1, none⟩ = some (.int .i64 n1) ∧ w'.cell? ⟨g, off + 6 + 2, none⟩ = some (.int .i64 tk1) ∧ w'.cell? ⟨g, off + 6 + 3, none⟩ = some (.int .i64 tn1) ∧ w'.cell? ⟨g, off + 6 + 4, none⟩ = some y0 ∧ w'.cell? ⟨g, off + 6 + 5, none⟩ = some y1) := fun w' hw => by have := hcl1 w' hw; rwa [Nat.one_mul] at this
  have HK1 : Hid (∀ A w v zs, Bf A W w v zs → zs.length + t1.length ≤ 1000000 → Calls Tryz.prog 53 #[v, .agg #[.int .i64 k1, .int .i64 n1, .int .i64 tk1, .int .i64 tn1, y0, y1], sv] w (SayP A W (zs ++ t1))) := hcall1
  have HQn : Hid (∀ w', K8 w1 w' → w'.cell? ⟨w.heap.size, 1, none⟩ = some (.int .i64 n)) := hbx.at (by decide) 1 _ rfl
  have HC0 : Hid (∀ w', Later W w' → w'.cell? ⟨g, off, none⟩ = some (.int .i64 k0) ∧ w'.cell? ⟨g, off + 1, none⟩ = some (.int .i64 n0) ∧ w'.cell? ⟨g, off + 2, none⟩ = some (.int .i64 tk0) ∧ w'.cell? ⟨g, off + 3, none⟩ = some (.int .i64 tn0) ∧ w'.cell? ⟨g, off + 4, none⟩ = some u0 ∧ w'.cell? ⟨g, off + 5, none⟩ = some u1) := fun w' hw => by have := hcl w' hw; rwa [Nat.zero_mul, Nat.add_zero] at this
  have HK0 : Hid (∀ A w v zs, Bf A W w v zs → zs.length + t0.length ≤ 1000000 → Calls Tryz.prog 53 #[v, .agg #[.int .i64 k0, .int .i64 n0, .int .i64 tk0, .int .i64 tn0, u0, u1], sv] w (SayP A W (zs ++ t0))) := hcall
  have HD : Hid (∀ w', Calls Tryz.prog 76 #[.int .i64 n] w' fun e w'' => ∃ v, e = .returned v ∧ (v = .string (opS n) ∧ Later w' w'')) := fun w' => op_say n w' hn0 hn7
  obtain ⟨hs1, hs2, hs3⟩ := opS_cells hn0 hn7
  generalize opS n = S at *
  generalize opL n = ol at *
  have hm0' : (0 : Int) < (m : Int) := by omega
  have hm1' : (1 : Int) < (m : Int) := by omega
  have hB0 := hA1.later (Later.drew _)
  have q0 := HQ.out w1.drew hB0.3
  obtain ⟨b0, b1, b2, b3, b4, b5⟩ := HC0.out w1.drew hB0.2
  clear hbx hcl hcall hcl1 hcall1 c0 c1 c2 c3 c4 c5
  go_enter Tryz.func53, Tryz.ntmps53
  go_wp2_with fail
  rw [← hw1.out]
  go_region_law (first
    | ((have _g := hb3); (refine step_call rfl 53 en_say _ _ rfl [.slice a3 M3 p3, .agg #[.int .i64 k0, .int .i64 n0, .int .i64 tk0, .int .i64 tn0, u0, u1], sv] rfl (fun v w' => Bf w1 W w' v (zs ++ [32, 40] ++ t0)) (HK0.out _ _ _ _ hb3 (by rw [hl3]; omega)) ?_; intro v4 w4 hb4; obtain ⟨a4, M4, p4, rfl, hM4⟩ := hb4.shape2))
    | (refine step_append_str rfl _ _ 27 9 rfl W.heap.size 5 i0 Tryz.underlying27 Tryz.underlying9 hi hz0 hz1 hz2 (.slice a zs.length cap) _ _ rfl hB0.1 _ rfl (by show _ + 2 ≤ maxLen; unfold maxLen; omega) (by show _ + 2 ≤ _; omega) hB0.2.size ?_; intro v3 w3 o3 g3; have hb3 : Bf w1 W w3 v3 (zs ++ [32, 40]) := hB0.put o3 rfl rfl g3; have hl3 : (zs ++ [32, 40]).length = zs.length + 2 := (by simp); have q3 := HQ.out _ hb3.3; obtain ⟨d0, d1, d2, d3, d4, d5⟩ := HC0.out _ hb3.2; obtain ⟨a3, M3, p3, rfl, hM3⟩ := hb3.shape2)
    | fail "none")
  all_goals
    have hl4 : (zs ++ [32, 40] ++ t0).length = zs.length + 2 + t0.length := by simp; omega
    have hB4 := hb4.later (Later.drew _)
    have hB5 := (hb4.alloc (.cells #[.int .u8 32] 5)).later (Later.drew _)
    have r1 := HQn.out w4.drew hB4.3
    have r2 := HQn.out (w4.alloc (.cells #[.int .u8 32] 5)).drew hB5.3
    have hS5 := Later.ones (Later.drew (w4.alloc (.cells #[.int .u8 32] 5))) (g := w4.heap.size) (by simp) (new_oneb w4 32)
    have hsz : w4.heap.size < (w4.alloc (.cells #[.int .u8 32] 5)).drew.heap.size := by show w4.heap.size < (w4.heap.push _).size; simp
    go_wp2_with fail
    go_region_law (first
      | ((have _g := hfin); (refine step_append_str rfl _ _ 27 9 rfl W.heap.size 5 i0 Tryz.underlying27 Tryz.underlying9 hi hz0 hz1 hz2 (.slice a6 M6 p6) _ _ rfl hfin.1 S rfl (by rw [hl6, hs2]; unfold maxLen; omega) (by rw [hl6, hs2]; omega) hfin.2.size ?_; intro v9 w9 o9 g9; have hb9 := hfin.put o9 hs2 hs1 g9))
      | (refine step_append_own2 rfl _ _ 27 rfl W.heap.size 5 i0 (.int .u8 0) 1 1 Tryz.underlying27 hi hz0 hz1 hz2 rfl (by decide) (.slice a4 M4 p4) _ _ rfl (hB5).1 ⟨_, 0, none⟩ 1 1 [.int .u8 32] rfl rfl (hS5) (by simp [Value.oneCell']) (by rw [hl4]; unfold maxLen; omega) (by rw [hl4]; omega) (hB5).2.size ?_; intro v6 w6 o6 g6; have hb6 : Bf w1 W w6 v6 (zs ++ [32, 40] ++ t0 ++ [32]) := hB5.put o6 rfl rfl g6; have hl6 : (zs ++ [32, 40] ++ t0 ++ [32]).length = zs.length + 2 + t0.length + 1 := (by simp; omega); have r6 := HQn.out _ hb6.3; obtain ⟨a6, M6, p6, rfl, hM6⟩ := hb6.shape2)
      | (refine step_append_own2 rfl _ _ 27 rfl W.heap.size 5 i0 (.int .u8 0) 1 1 Tryz.underlying27 hi hz0 hz1 hz2 rfl (by decide) (.slice a4 M4 p4) _ _ rfl (hB5.later l8).1 ⟨_, 0, none⟩ 1 1 [.int .u8 32] rfl rfl (Later.ones l8 hsz hS5) (by simp [Value.oneCell']) (by rw [hl4]; unfold maxLen; omega) (by rw [hl4]; omega) (hB5.later l8).2.size ?_; intro v6 w6 o6 g6; have hfin : Bf w1 W w6 v6 (zs ++ [32, 40] ++ t0 ++ [32]) := (hB5.later l8).put o6 rfl rfl g6; have hl6 : (zs ++ [32, 40] ++ t0 ++ [32]).length = zs.length + 2 + t0.length + 1 := (by simp; omega); obtain ⟨a6, M6, p6, rfl, hM6⟩ := hfin.shape2)
      | (refine step_append_own2 rfl _ _ 27 rfl W.heap.size 5 i0 (.int .u8 0) 1 1 Tryz.underlying27 hi hz0 hz1 hz2 rfl (by decide) (.slice a4 M4 p4) _ _ rfl ((hB4.later l8).alloc _).1 ⟨_, 0, none⟩ 1 1 [.int .u8 32] rfl rfl (new_oneb _ _) (by simp [Value.oneCell']) (by rw [hl4]; unfold maxLen; omega) (by rw [hl4]; omega) ((hB4.later l8).alloc _).2.size ?_; intro v6 w6 o6 g6; have hfin : Bf w1 W w6 v6 (zs ++ [32, 40] ++ t0 ++ [32]) := ((hB4.later l8).alloc _).put o6 rfl rfl g6; have hl6 : (zs ++ [32, 40] ++ t0 ++ [32]).length = zs.length + 2 + t0.length + 1 := (by simp; omega); obtain ⟨a6, M6, p6, rfl, hM6⟩ := hfin.shape2)
      | ((fail_if_success (have _g := hb6)); refine step_call rfl 76 en_op _ _ rfl [.int .i64 n] rfl (fun v w' => v = .string S ∧ Later _ w') (HD.out _) ?_; rintro _ w8 ⟨rfl, l8⟩)
      | ((have _g := hb6); (refine step_call rfl 76 en_op _ _ rfl [.int .i64 n] rfl (fun v w' => v = .string S ∧ Later _ w') (HD.out _) ?_; rintro _ w8 ⟨rfl, l8⟩; have hfin := hb6.later l8))
      | fail "none")
    all_goals
      have hl9 : ((zs ++ [32, 40] ++ t0 ++ [32]) ++ ol).length = zs.length + 2 + t0.length + 1 + ol.length := by simp; omega
      have q9 := HQ.out _ hb9.3
      obtain ⟨f0, f1, f2, f3, f4, f5⟩ := HC1.out _ hb9.2
      obtain ⟨a9, M9, p9, rfl, hM9⟩ := hb9.shape2
      go_wp2_with fail
      refine (HK1.out _ _ _ _ hb9 (by rw [hl9]; omega)).mono ?_
      rintro e wz ⟨vz, rfl, hbz⟩
      have hlz : ((zs ++ [32, 40] ++ t0 ++ [32]) ++ ol ++ t1).length = zs.length + 2 + t0.length + 1 + ol.length + t1.length := by simp; omega
      obtain ⟨az, Mz, pz, rfl, hMz⟩ := hbz.shape2
      go_wp2_with (at_builtin; refine Go.Lib.wpList_append_own_string _ rfl _ _ 27 9 rfl W.heap.size 5 i0 Tryz.underlying27 Tryz.underlying9 hi hz0 hz1 hz2 (.slice az Mz pz) _ _ rfl hbz.1 _ rfl (by rw [hlz]; show _ + 2 ≤ maxLen; unfold maxLen; omega) (by rw [hlz]; show _ + 2 ≤ _; omega) hbz.2.size ?_; intro v7 w7 o7 g7 _; have hb7 := hbz.put o7 (ts := [32, 41]) rfl rfl g7)
      rw [show (zs ++ [32, 40] ++ t0 ++ [32]) ++ ol ++ t1 ++ [32, 41] = zs ++ ([32, 40] ++ t0 ++ (32 :: ol) ++ t1 ++ [32, 41]) by simp] at hb7
      exact HF.out _ _ hb7
end Go.Proofs.YtbigjeejmacjcaaGreatDoor
