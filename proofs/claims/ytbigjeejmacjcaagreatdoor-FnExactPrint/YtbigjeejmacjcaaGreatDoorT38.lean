/- Expressions put behind a text, by the model: fields, elements, operations. -/
import Derived.Test.YtbigjeejmacjcaaGreatDoorT37
namespace Go.Proofs.YtbigjeejmacjcaaGreatDoor
open Go.RowKit Go.Lib
set_option maxRecDepth 20000 in
set_option maxHeartbeats 4000000 in
theorem say_7 (A W w : World) (v sv v0 v1 : Value) (zs : List Int) (n tk tn : Int) (h : Bf A W w v zs) (m : Nat) (t0 nm : List Int) (hk0 : Kid W sv v1 m 0 t0) (hv0 : RdN W v0 nm) (hn1 : 1 ≤ nm.length) (hb : zs.length + t0.length + 3 + nm.length ≤ 1000000) :
    Calls Tryz.prog 53 #[v, .agg #[.int .i64 7, .int .i64 n, .int .i64 tk, .int .i64 tn, v0, v1], sv] w (SayP A W (zs ++ (t0 ++ [32, 46, 32] ++ nm))) := by
  obtain ⟨i0, hi, hz0, hz1, hz2⟩ := info_parts Tryz.info5
  obtain ⟨a, cap, rfl⟩ := h.shape
  obtain ⟨hm0, g, off, cap1, k0, n0, tk0, tn0, u0, u1, rfl, hgW, hcl, hcall⟩ := hk0
  obtain ⟨c0, c1, c2, c3, c4, c5⟩ := hcl w h.2
  rw [Nat.zero_mul, Nat.add_zero] at c0 c1 c2 c3 c4 c5
  have hgw : g < w.heap.size := Nat.lt_of_lt_of_le hgW h.2.size
  obtain ⟨g0, off0, q, rfl, hg0, hcells⟩ := nm_cells hv0 hn1
  obtain ⟨w1, hw1⟩ : ∃ w1, Hid (w1 = w.alloc (.cells #[.int .i64 7, .int .i64 n, .int .i64 tk, .int .i64 tn, .slice (some ⟨g0, off0, none⟩) nm.length q, .slice (some ⟨g, off, none⟩) m cap1] 107)) := ⟨_, rfl⟩
  have hA : Bf A W w1 (.slice a zs.length cap) zs := by rw [hw1.out]; exact h.alloc _
  have hbx : BxT w.heap.size w1 [.int .i64 7, .int .i64 n, .int .i64 tk, .int .i64 tn, .slice (some ⟨g0, off0, none⟩) nm.length q, .slice (some ⟨g, off, none⟩) m cap1] 107 := by rw [hw1.out]; exact BxT.new w _ _
  have HF : Hid (∀ v' w', Bf w1 W w' v' (zs ++ (t0 ++ [32, 46, 32] ++ nm)) → SayP A W (zs ++ (t0 ++ [32, 46, 32] ++ nm)) (.returned v') w') := fun v' w' h => ⟨v', rfl, h.back hA.3⟩
  have hA1 := hA.from
  clear hA h
  generalize hQ : SayP A W (zs ++ (t0 ++ [32, 46, 32] ++ nm)) = Q
  rw [hQ] at HF
  have HQ : Hid (∀ w', K8 w1 w' → w'.cell? ⟨w.heap.size, 4, none⟩ = some (.slice (some ⟨g0, off0, none⟩) nm.length q)) := hbx.at (by decide) 4 _ rfl
  have HC : Hid (∀ w', Later W w' → ∀ j u, (nm.map (Value.int .u8))[j]? = some u → w'.cell? ((⟨g0, off0, none⟩ : Addr).add j) = some u) := hcells
  have HK := hcall w1 w1 _ _ hA1 (by omega)
  obtain ⟨X, hX⟩ : ∃ X, Hid (X = nm.map (Value.int .u8)) := ⟨_, rfl⟩
  have hXl : X.length = nm.length := by rw [hX.out]; simp
  have hX1 : ∀ u ∈ X, u.oneCell' = true := by rw [hX.out]; exact one_all nm
  rw [← hX.out] at HC
  have hm0' : (0 : Int) < (m : Int) := by omega
  clear hbx hcells hv0 hcl hcall
  obtain rfl := hw1.out
  go_enter Tryz.func53, Tryz.ntmps53
  go_wp2_with fail
  refine HK.mono ?_
  rintro e w3 ⟨v3, rfl, hb3⟩
  have q3 := HQ.out _ hb3.3
  have hl3 : (zs ++ t0).length = zs.length + t0.length := by simp
  obtain ⟨a3, M3, p3, rfl, hM3⟩ := hb3.shape2
  go_wp2_with (first | (have _g := hb5; (at_builtin; refine wpList_append_own _ rfl _ _ 27 rfl W.heap.size 5 i0 (.int .u8 0) 1 1 Tryz.underlying27 hi hz0 hz1 hz2 rfl (by decide) (.slice a5 M5 p5) _ _ rfl hb5.1 ⟨g0, off0, none⟩ nm.length q X rfl (by rw [hXl, Nat.mul_one]) (HC.out _ hb5.2) hX1 (by rw [hl5]; unfold maxLen; omega) (by rw [hl5]; omega) hb5.2.size ?_; intro v7 w7 o7 g7 _)) | (at_builtin; refine Go.Lib.wpList_append_own_string _ rfl _ _ 27 9 rfl W.heap.size 5 i0 Tryz.underlying27 Tryz.underlying9 hi hz0 hz1 hz2 (.slice a3 M3 p3) _ _ rfl hb3.1 _ rfl (by rw [hl3]; show _ + 3 ≤ maxLen; unfold maxLen; omega) (by rw [hl3]; show _ + 3 ≤ _; omega) hb3.2.size ?_; intro v5 w5 o5 g5 _; have hb5 := hb3.put o5 (ts := [32, 46, 32]) rfl rfl g5; have q5 := HQ.out _ hb5.3; have hl5 : (zs ++ t0 ++ [32, 46, 32]).length = zs.length + t0.length + 3 := (by simp; omega); obtain ⟨a5, M5, p5, rfl, hM5⟩ := hb5.shape2))
  have hb7 := hb5.put o7 (ts := nm) rfl hX.out g7
  rw [List.append_assoc, List.append_assoc, ← List.append_assoc t0] at hb7
  exact HF.out _ _ hb7
set_option maxRecDepth 20000 in
set_option maxHeartbeats 4000000 in
theorem say_8 (A W w : World) (v sv v0 v1 : Value) (zs : List Int) (n tk tn : Int) (h : Bf A W w v zs) (m : Nat) (t0 t1 : List Int) (hk0 : Kid W sv v1 m 0 t0) (hk1 : Kid W sv v1 m 1 t1) (hb : zs.length + t0.length + 2 + t1.length + 2 ≤ 1000000) :
    Calls Tryz.prog 53 #[v, .agg #[.int .i64 8, .int .i64 n, .int .i64 tk, .int .i64 tn, v0, v1], sv] w (SayP A W (zs ++ (t0 ++ [32, 91] ++ t1 ++ [32, 93]))) := by
  obtain ⟨i0, hi, hz0, hz1, hz2⟩ := info_parts Tryz.info5
  obtain ⟨a, cap, rfl⟩ := h.shape
  obtain ⟨hm0, g, off, cap1, k0, n0, tk0, tn0, u0, u1, rfl, hgW, hcl, hcall⟩ := hk0
  obtain ⟨c0, c1, c2, c3, c4, c5⟩ := hcl w h.2
  rw [Nat.zero_mul, Nat.add_zero] at c0 c1 c2 c3 c4 c5
  have hgw : g < w.heap.size := Nat.lt_of_lt_of_le hgW h.2.size
  obtain ⟨hm1, g', off', cap1', k1, n1, tk1, tn1, y0, y1, e1, _, hcl1, hcall1⟩ := hk1
  cases e1
  obtain ⟨w1, hw1⟩ : ∃ w1, Hid (w1 = w.alloc (.cells #[.int .i64 8, .int .i64 n, .int .i64 tk, .int .i64 tn, v0, .slice (some ⟨g, off, none⟩) m cap1] 107)) := ⟨_, rfl⟩
  have hA : Bf A W w1 (.slice a zs.length cap) zs := by rw [hw1.out]; exact h.alloc _
  have hbx : BxT w.heap.size w1 [.int .i64 8, .int .i64 n, .int .i64 tk, .int .i64 tn, v0, .slice (some ⟨g, off, none⟩) m cap1] 107 := by rw [hw1.out]; exact BxT.new w _ _
  have HF : Hid (∀ v' w', Bf w1 W w' v' (zs ++ (t0 ++ [32, 91] ++ t1 ++ [32, 93])) → SayP A W (zs ++ (t0 ++ [32, 91] ++ t1 ++ [32, 93])) (.returned v') w') := fun v' w' h => ⟨v', rfl, h.back hA.3⟩
  have hA1 := hA.from
  clear hA h
  generalize hQ : SayP A W (zs ++ (t0 ++ [32, 91] ++ t1 ++ [32, 93])) = Q
  rw [hQ] at HF
  have HQ : Hid (∀ w', K8 w1 w' → w'.cell? ⟨w.heap.size, 5, none⟩ = some (.slice (some ⟨g, off, none⟩) m cap1)) := hbx.at (by decide) 5 _ rfl
  have HC1 : Hid (∀ w', Later W w' → w'.cell? ⟨g, off + 6, none⟩ = some (.int .i64 k1) ∧ w'.cell? ⟨g, off + 6 + 1, none⟩ = some (.int .i64 n1) ∧ w'.cell? ⟨g, off + 6 + 2, none⟩ = some (.int .i64 tk1) ∧ w'.cell? ⟨g, off + 6 + 3, none⟩ = some (.int .i64 tn1) ∧ w'.cell? ⟨g, off + 6 + 4, none⟩ = some y0 ∧ w'.cell? ⟨g, off + 6 + 5, none⟩ = some y1) := fun w' hw => by have := hcl1 w' hw; rwa [Nat.one_mul] at this
  have HK1 : Hid (∀ A w v zs, Bf A W w v zs → zs.length + t1.length ≤ 1000000 → Calls Tryz.prog 53 #[v, .agg #[.int .i64 k1, .int .i64 n1, .int .i64 tk1, .int .i64 tn1, y0, y1], sv] w (SayP A W (zs ++ t1))) := hcall1
  have HK := hcall w1 w1 _ _ hA1 (by omega)
  have hm0' : (0 : Int) < (m : Int) := by omega
  have hm1' : (1 : Int) < (m : Int) := by omega
  clear hbx hcl hcall hcl1 hcall1
  obtain rfl := hw1.out
  go_enter Tryz.func53, Tryz.ntmps53
  go_wp2_with fail
  refine HK.mono ?_
  rintro e w3 ⟨v3, rfl, hb3⟩
  have hl3 : (zs ++ t0).length = zs.length + t0.length := by simp
  obtain ⟨a3, M3, p3, rfl, hM3⟩ := hb3.shape2
  go_wp2_with (first | (at_builtin; refine Go.Lib.wpList_append_own_string _ rfl _ _ 27 9 rfl W.heap.size 5 i0 Tryz.underlying27 Tryz.underlying9 hi hz0 hz1 hz2 (.slice a3 M3 p3) _ _ rfl hb3.1 _ rfl (by rw [hl3]; show _ + 2 ≤ maxLen; unfold maxLen; omega) (by rw [hl3]; show _ + 2 ≤ _; omega) hb3.2.size ?_; intro v5 w5 o5 g5 _; have hb5 := hb3.put o5 (ts := [32, 91]) rfl rfl g5; have q5 := HQ.out _ hb5.3; obtain ⟨d0, d1, d2, d3, d4, d5⟩ := HC1.out _ hb5.2; have hl5 : (zs ++ t0 ++ [32, 91]).length = zs.length + t0.length + 2 := (by simp; omega); obtain ⟨a5, M5, p5, rfl, hM5⟩ := hb5.shape2))
  refine (HK1.out _ _ _ _ hb5 (by rw [hl5]; omega)).mono ?_
  rintro e w6 ⟨v6, rfl, hb6⟩
  have hl6 : (zs ++ t0 ++ [32, 91] ++ t1).length = zs.length + t0.length + 2 + t1.length := by simp; omega
  obtain ⟨a6, M6, p6, rfl, hM6⟩ := hb6.shape2
  go_wp2_with (at_builtin; refine Go.Lib.wpList_append_own_string _ rfl _ _ 27 9 rfl W.heap.size 5 i0 Tryz.underlying27 Tryz.underlying9 hi hz0 hz1 hz2 (.slice a6 M6 p6) _ _ rfl hb6.1 _ rfl (by rw [hl6]; show _ + 2 ≤ maxLen; unfold maxLen; omega) (by rw [hl6]; show _ + 2 ≤ _; omega) hb6.2.size ?_; intro v7 w7 o7 g7 _; have hb7 := hb6.put o7 (ts := [32, 93]) rfl rfl g7)
  rw [show zs ++ t0 ++ [32, 91] ++ t1 ++ [32, 93] = zs ++ (t0 ++ [32, 91] ++ t1 ++ [32, 93]) by simp only [List.append_assoc]] at hb7
  exact HF.out _ _ hb7
end Go.Proofs.YtbigjeejmacjcaaGreatDoor
