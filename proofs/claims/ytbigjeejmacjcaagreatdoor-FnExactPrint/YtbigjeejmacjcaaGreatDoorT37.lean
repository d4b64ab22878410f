/- Expressions put behind a text, by the model: what asks for no call of itself, and what does. -/
import Derived.Test.YtbigjeejmacjcaaGreatDoorT36
namespace Go.Proofs.YtbigjeejmacjcaaGreatDoor
open Go.RowKit Go.Lib
/-- The kid at j reads as an expression whose text is t. -/
def Kid (W : World) (sv v1 : Value) (m j : Nat) (t : List Int) : Prop := j < m ∧ ∃ (g off cap : Nat) (k n tk tn : Int) (u0 u1 : Value), v1 = .slice (some ⟨g, off, none⟩) m cap ∧ g < W.heap.size ∧
  (∀ w', Later W w' → w'.cell? ⟨g, off + j * 6, none⟩ = some (.int .i64 k) ∧ w'.cell? ⟨g, off + j * 6 + 1, none⟩ = some (.int .i64 n) ∧ w'.cell? ⟨g, off + j * 6 + 2, none⟩ = some (.int .i64 tk) ∧ w'.cell? ⟨g, off + j * 6 + 3, none⟩ = some (.int .i64 tn) ∧ w'.cell? ⟨g, off + j * 6 + 4, none⟩ = some u0 ∧ w'.cell? ⟨g, off + j * 6 + 5, none⟩ = some u1) ∧
  (∀ A w v zs, Bf A W w v zs → zs.length + t.length ≤ 1000000 → Calls Tryz.prog 53 #[v, .agg #[.int .i64 k, .int .i64 n, .int .i64 tk, .int .i64 tn, u0, u1], sv] w (SayP A W (zs ++ t)))
theorem BxT.at {b : Nat} {A : World} {cs : List Value} {t : TypeId} (h : BxT b A cs t) (ht : t ≠ 5) (i : Nat) (u : Value) (hu : cs[i]? = some u) : ∀ w', K8 A w' → w'.cell? ⟨b, i, none⟩ = some u := fun _ k => (h.k8 k ht).cell i u hu
set_option maxRecDepth 20000 in
set_option maxHeartbeats 4000000 in
theorem say_11 (A W w : World) (v sv v0 v1 : Value) (zs : List Int) (n tk tn : Int) (h : Bf A W w v zs) (hb : zs.length ≤ 1000000) :
    Calls Tryz.prog 53 #[v, .agg #[.int .i64 11, .int .i64 n, .int .i64 tk, .int .i64 tn, v0, v1], sv] w (SayP A W (zs ++ [32, 114, 101, 97, 100])) := by
  obtain ⟨i0, hi, hz0, hz1, hz2⟩ := info_parts Tryz.info5
  obtain ⟨a, cap, rfl⟩ := h.shape
  obtain ⟨w1, hw1⟩ : ∃ w1, Hid (w1 = w.alloc (.cells #[.int .i64 11, .int .i64 n, .int .i64 tk, .int .i64 tn, v0, v1] 107)) := ⟨_, rfl⟩
  have hA : Bf A W w1 (.slice a zs.length cap) zs := by rw [hw1.out]; exact h.alloc _
  have hbx : BxT w.heap.size w1 [.int .i64 11, .int .i64 n, .int .i64 tk, .int .i64 tn, v0, v1] 107 := by rw [hw1.out]; exact BxT.new w _ _
  have HF : Hid (∀ v' w', Bf w1 W w' v' (zs ++ [32, 114, 101, 97, 100]) → SayP A W (zs ++ [32, 114, 101, 97, 100]) (.returned v') w') := fun v' w' h => ⟨v', rfl, h.back hA.3⟩
  have hA1 := hA.from
  clear hA h
  generalize hQ : SayP A W (zs ++ [32, 114, 101, 97, 100]) = Q
  rw [hQ] at HF
  clear hbx
  obtain rfl := hw1.out
  go_enter Tryz.func53, Tryz.ntmps53
  go_wp2_with (at_builtin; refine Go.Lib.wpList_append_own_string _ rfl _ _ 27 9 rfl W.heap.size 5 i0 Tryz.underlying27 Tryz.underlying9 hi hz0 hz1 hz2 (.slice a zs.length cap) _ _ rfl hA1.1 _ rfl (by show _ + 5 ≤ maxLen; unfold maxLen; omega) (by show _ + 5 ≤ _; omega) hA1.2.size ?_; intro v3 w3 o3 g3 _)
  exact HF.out _ _ (hA1.put o3 rfl rfl g3)
set_option maxRecDepth 20000 in
set_option maxHeartbeats 4000000 in
theorem say_3 (A W w : World) (v sv v0 v1 : Value) (zs : List Int) (n tk tn : Int) (h : Bf A W w v zs) (hb : zs.length ≤ 1000000) (nm : List Int) (hv0 : RdN W v0 nm) (hn1 : 1 ≤ nm.length) (hn2 : nm.length ≤ 1000) :
    Calls Tryz.prog 53 #[v, .agg #[.int .i64 3, .int .i64 n, .int .i64 tk, .int .i64 tn, v0, v1], sv] w (SayP A W (zs ++ ([32] ++ nm))) := by
  obtain ⟨i0, hi, hz0, hz1, hz2⟩ := info_parts Tryz.info5
  obtain ⟨a, cap, rfl⟩ := h.shape
  obtain ⟨g0, off0, q, rfl, hg0, hcells⟩ := nm_cells hv0 hn1
  obtain ⟨w1, hw1⟩ : ∃ w1, Hid (w1 = w.alloc (.cells #[.int .i64 3, .int .i64 n, .int .i64 tk, .int .i64 tn, .slice (some ⟨g0, off0, none⟩) nm.length q, v1] 107)) := ⟨_, rfl⟩
  have hA : Bf A W w1 (.slice a zs.length cap) zs := by rw [hw1.out]; exact h.alloc _
  have hbx : BxT w.heap.size w1 [.int .i64 3, .int .i64 n, .int .i64 tk, .int .i64 tn, .slice (some ⟨g0, off0, none⟩) nm.length q, v1] 107 := by rw [hw1.out]; exact BxT.new w _ _
  have HF : Hid (∀ v' w', Bf w1 W w' v' (zs ++ ([32] ++ nm)) → SayP A W (zs ++ ([32] ++ nm)) (.returned v') w') := fun v' w' h => ⟨v', rfl, h.back hA.3⟩
  have hA1 := hA.from
  clear hA h
  generalize hQ : SayP A W (zs ++ ([32] ++ nm)) = Q
  rw [hQ] at HF
  have HQ : Hid (∀ w', K8 w1 w' → w'.cell? ⟨w.heap.size, 4, none⟩ = some (.slice (some ⟨g0, off0, none⟩) nm.length q)) := hbx.at (by decide) 4 _ rfl
  have HC : Hid (∀ w', Later W w' → ∀ j u, (nm.map (Value.int .u8))[j]? = some u → w'.cell? ((⟨g0, off0, none⟩ : Addr).add j) = some u) := hcells
  have q1 := HQ.out w1.drew (Later.drew _).k8
  have q1' := HQ.out (w1.alloc (.cells #[.int .u8 32] 5)).drew ((later1 _ _).trans (Later.drew _)).k8
  have hB1 := (hA1.alloc (.cells #[.int .u8 32] 5)).later (Later.drew _)
  have hS1 := Later.ones (Later.drew (w1.alloc (.cells #[.int .u8 32] 5))) (g := w1.heap.size) (by simp) (new_oneb w1 32)
  obtain ⟨X, hX⟩ : ∃ X, Hid (X = nm.map (Value.int .u8)) := ⟨_, rfl⟩
  have hXl : X.length = nm.length := by rw [hX.out]; simp
  have hX1 : ∀ u ∈ X, u.oneCell' = true := by rw [hX.out]; exact one_all nm
  rw [← hX.out] at HC
  clear hbx hcells hv0
  go_enter Tryz.func53, Tryz.ntmps53
  go_wp2_with fail
  rw [← hw1.out]
  go_region_law (first
    | (have _g := hbf3; (refine step_append_own2 rfl _ _ 27 rfl W.heap.size 5 i0 (.int .u8 0) 1 1 Tryz.underlying27 hi hz0 hz1 hz2 rfl (by decide) (.slice a3 M3 p3) _ _ rfl hbf3.1 ⟨g0, off0, none⟩ nm.length q X rfl (by rw [hXl, Nat.mul_one]) (HC.out _ hbf3.2) hX1 (by rw [hl3]; unfold maxLen; omega) (by rw [hl3]; omega) hbf3.2.size ?_; intro v5 w5 o5 g5; have hbf5 := hbf3.put o5 rfl hX.out g5))
    | (refine step_append_own2 rfl _ _ 27 rfl W.heap.size 5 i0 (.int .u8 0) 1 1 Tryz.underlying27 hi hz0 hz1 hz2 rfl (by decide) (.slice a zs.length cap) _ _ rfl hB1.1 ⟨_, 0, none⟩ 1 1 [.int .u8 32] rfl rfl hS1 (by simp [Value.oneCell']) (by unfold maxLen; omega) (by omega) hB1.2.size ?_; intro v3 w3 o3 g3; have hbf3 : Bf w1 W w3 v3 (zs ++ [32]) := hB1.put o3 rfl rfl g3; have hl3 : (zs ++ [32]).length = zs.length + 1 := (by simp); have q3 := HQ.out _ hbf3.3; obtain ⟨a3, M3, p3, rfl, hM3⟩ := hbf3.shape2)
    | fail "none")
  all_goals
    rw [List.append_assoc] at hbf5
    go_wp2_with fail
    go_simp
    go_ret
    exact HF.out _ _ hbf5
set_option maxRecDepth 20000 in
set_option maxHeartbeats 4000000 in
theorem say_2 (A W w : World) (v sv v0 v1 : Value) (zs : List Int) (n tk tn : Int) (h : Bf A W w v zs) (hb : zs.length ≤ 1000000) (l : List Sc) (hl : RdL W 2 sv (Sc.dats l)) (h0 : 0 ≤ n) (h1 : n < l.length) (hnm : ∀ x ∈ l, 1 ≤ x.name.length ∧ x.name.length ≤ 1000) :
    Calls Tryz.prog 53 #[v, .agg #[.int .i64 2, .int .i64 n, .int .i64 tk, .int .i64 tn, v0, v1], sv] w (SayP A W (zs ++ ([32, 110, 105, 108, 32] ++ nmAt l n))) := by
  obtain ⟨i0, hi, hz0, hz1, hz2⟩ := info_parts Tryz.info5
  obtain ⟨a, cap, rfl⟩ := h.shape
  obtain ⟨N, rfl⟩ : ∃ N : Nat, n = N := ⟨n.toNat, by omega⟩
  have hN : N < l.length := by omega
  obtain ⟨sa, scap, rfl, hsl⟩ := Sc.slice hl
  obtain ⟨g, off, u0, u1, rfl, hg, hc0, hc1, hr0, hr1⟩ := Sc.elem hl N hN
  obtain ⟨hn1, hn2⟩ := hnm l[N] (List.getElem_mem hN)
  have he : nmAt l (N : Int) = l[N].name := by unfold nmAt; rw [Int.toNat_natCast, List.getElem?_eq_getElem hN]
  rw [he]
  generalize l[N].name = nm at *
  obtain ⟨g0, off0, q, rfl, hg0, hcells⟩ := nm_cells hr0 hn1
  obtain ⟨w1, hw1⟩ : ∃ w1, Hid (w1 = w.alloc (.cells #[.int .i64 2, .int .i64 (N : Int), .int .i64 tk, .int .i64 tn, v0, v1] 107)) := ⟨_, rfl⟩
  have hA : Bf A W w1 (.slice a zs.length cap) zs := by rw [hw1.out]; exact h.alloc _
  have hbx : BxT w.heap.size w1 [.int .i64 2, .int .i64 (N : Int), .int .i64 tk, .int .i64 tn, v0, v1] 107 := by rw [hw1.out]; exact BxT.new w _ _
  have HF : Hid (∀ v' w', Bf w1 W w' v' (zs ++ ([32, 110, 105, 108, 32] ++ nm)) → SayP A W (zs ++ ([32, 110, 105, 108, 32] ++ nm)) (.returned v') w') := fun v' w' h => ⟨v', rfl, h.back hA.3⟩
  have hA1 := hA.from
  clear hA h
  generalize hQ : SayP A W (zs ++ ([32, 110, 105, 108, 32] ++ nm)) = Q
  rw [hQ] at HF
  have HQ : Hid (∀ w', K8 w1 w' → w'.cell? ⟨w.heap.size, 1, none⟩ = some (.int .i64 (N : Int))) := hbx.at (by decide) 1 _ rfl
  have HC : Hid (∀ w', Later W w' → ∀ j u, (nm.map (Value.int .u8))[j]? = some u → w'.cell? ((⟨g0, off0, none⟩ : Addr).add j) = some u) := hcells
  have HG : Hid (∀ w', Later W w' → w'.cell? ⟨g, off + N * 2, none⟩ = some (.slice (some ⟨g0, off0, none⟩) nm.length q)) := fun w' hw => by rw [hw.cell (p := ⟨g, off + N * 2, none⟩) hg]; exact hc0
  have q1 := HQ.out w1.drew (Later.drew _).k8
  have hB0 := hA1.later (Later.drew _)
  have q2 := HG.out w1.drew hB0.2
  obtain ⟨X, hX⟩ : ∃ X, Hid (X = nm.map (Value.int .u8)) := ⟨_, rfl⟩
  have hXl : X.length = nm.length := by rw [hX.out]; simp
  have hX1 : ∀ u ∈ X, u.oneCell' = true := by rw [hX.out]; exact one_all nm
  rw [← hX.out] at HC
  clear hbx hcells hr0 hr1 hc0 hc1 hl hnm he
  go_enter Tryz.func53, Tryz.ntmps53
  go_wp2_with fail
  rw [← hw1.out]
  go_region_law (first
    | (have _g := hbf3; (refine step_append_own2 rfl _ _ 27 rfl W.heap.size 5 i0 (.int .u8 0) 1 1 Tryz.underlying27 hi hz0 hz1 hz2 rfl (by decide) (.slice a3 M3 p3) _ _ rfl hbf3.1 ⟨g0, off0, none⟩ nm.length q X rfl (by rw [hXl, Nat.mul_one]) (HC.out _ hbf3.2) hX1 (by rw [hl3]; unfold maxLen; omega) (by rw [hl3]; omega) hbf3.2.size ?_; intro v5 w5 o5 g5; have hbf5 := hbf3.put o5 rfl hX.out g5))
    | (refine step_append_str rfl _ _ 27 9 rfl W.heap.size 5 i0 Tryz.underlying27 Tryz.underlying9 hi hz0 hz1 hz2 (.slice a zs.length cap) _ _ rfl hB0.1 _ rfl (by show zs.length + 5 ≤ maxLen; unfold maxLen; omega) (by show zs.length + 5 ≤ _; omega) hB0.2.size ?_; intro v3 w3 o3 g3; have hbf3 : Bf w1 W w3 v3 (zs ++ [32, 110, 105, 108, 32]) := hB0.put o3 rfl rfl g3; have hl3 : (zs ++ [32, 110, 105, 108, 32]).length = zs.length + 5 := (by simp); have q3 := HQ.out _ hbf3.3; have q4 := HG.out _ hbf3.2; obtain ⟨a3, M3, p3, rfl, hM3⟩ := hbf3.shape2)
    | fail "none")
  all_goals
    rw [List.append_assoc] at hbf5
    go_wp2_with fail
    go_simp
    go_ret
    exact HF.out _ _ hbf5
set_option maxRecDepth 20000 in
set_option maxHeartbeats 4000000 in
theorem say_4 (A W w : World) (v sv v0 v1 : Value) (zs : List Int) (n tk tn : Int) (h : Bf A W w v zs) (hb : zs.length ≤ 1000000) (l : List Sc) (hl : RdL W 2 sv (Sc.dats l)) (h0 : 0 ≤ n) (h1 : n < l.length) (hnm : ∀ x ∈ l, 1 ≤ x.name.length ∧ x.name.length ≤ 1000) :
    Calls Tryz.prog 53 #[v, .agg #[.int .i64 4, .int .i64 n, .int .i64 tk, .int .i64 tn, v0, v1], sv] w (SayP A W (zs ++ ([32, 110, 101, 119, 32] ++ nmAt l n))) := by
  obtain ⟨i0, hi, hz0, hz1, hz2⟩ := info_parts Tryz.info5
  obtain ⟨a, cap, rfl⟩ := h.shape
  obtain ⟨N, rfl⟩ : ∃ N : Nat, n = N := ⟨n.toNat, by omega⟩
  have hN : N < l.length := by omega
  obtain ⟨sa, scap, rfl, hsl⟩ := Sc.slice hl
  obtain ⟨g, off, u0, u1, rfl, hg, hc0, hc1, hr0, hr1⟩ := Sc.elem hl N hN
  obtain ⟨hn1, hn2⟩ := hnm l[N] (List.getElem_mem hN)
  have he : nmAt l (N : Int) = l[N].name := by unfold nmAt; rw [Int.toNat_natCast, List.getElem?_eq_getElem hN]
  rw [he]
  generalize l[N].name = nm at *
  obtain ⟨g0, off0, q, rfl, hg0, hcells⟩ := nm_cells hr0 hn1
  obtain ⟨w1, hw1⟩ : ∃ w1, Hid (w1 = w.alloc (.cells #[.int .i64 4, .int .i64 (N : Int), .int .i64 tk, .int .i64 tn, v0, v1] 107)) := ⟨_, rfl⟩
  have hA : Bf A W w1 (.slice a zs.length cap) zs := by rw [hw1.out]; exact h.alloc _
  have hbx : BxT w.heap.size w1 [.int .i64 4, .int .i64 (N : Int), .int .i64 tk, .int .i64 tn, v0, v1] 107 := by rw [hw1.out]; exact BxT.new w _ _
  have HF : Hid (∀ v' w', Bf w1 W w' v' (zs ++ ([32, 110, 101, 119, 32] ++ nm)) → SayP A W (zs ++ ([32, 110, 101, 119, 32] ++ nm)) (.returned v') w') := fun v' w' h => ⟨v', rfl, h.back hA.3⟩
  have hA1 := hA.from
  clear hA h
  generalize hQ : SayP A W (zs ++ ([32, 110, 101, 119, 32] ++ nm)) = Q
  rw [hQ] at HF
  have HQ : Hid (∀ w', K8 w1 w' → w'.cell? ⟨w.heap.size, 1, none⟩ = some (.int .i64 (N : Int))) := hbx.at (by decide) 1 _ rfl
  have HC : Hid (∀ w', Later W w' → ∀ j u, (nm.map (Value.int .u8))[j]? = some u → w'.cell? ((⟨g0, off0, none⟩ : Addr).add j) = some u) := hcells
  have HG : Hid (∀ w', Later W w' → w'.cell? ⟨g, off + N * 2, none⟩ = some (.slice (some ⟨g0, off0, none⟩) nm.length q)) := fun w' hw => by rw [hw.cell (p := ⟨g, off + N * 2, none⟩) hg]; exact hc0
  have q1 := HQ.out w1.drew (Later.drew _).k8
  have hB0 := hA1.later (Later.drew _)
  have q2 := HG.out w1.drew hB0.2
  obtain ⟨X, hX⟩ : ∃ X, Hid (X = nm.map (Value.int .u8)) := ⟨_, rfl⟩
  have hXl : X.length = nm.length := by rw [hX.out]; simp
  have hX1 : ∀ u ∈ X, u.oneCell' = true := by rw [hX.out]; exact one_all nm
  rw [← hX.out] at HC
  clear hbx hcells hr0 hr1 hc0 hc1 hl hnm he
  go_enter Tryz.func53, Tryz.ntmps53
  go_wp2_with fail
  rw [← hw1.out]
  go_region_law (first
    | (have _g := hbf3; (refine step_append_own2 rfl _ _ 27 rfl W.heap.size 5 i0 (.int .u8 0) 1 1 Tryz.underlying27 hi hz0 hz1 hz2 rfl (by decide) (.slice a3 M3 p3) _ _ rfl hbf3.1 ⟨g0, off0, none⟩ nm.length q X rfl (by rw [hXl, Nat.mul_one]) (HC.out _ hbf3.2) hX1 (by rw [hl3]; unfold maxLen; omega) (by rw [hl3]; omega) hbf3.2.size ?_; intro v5 w5 o5 g5; have hbf5 := hbf3.put o5 rfl hX.out g5))
    | (refine step_append_str rfl _ _ 27 9 rfl W.heap.size 5 i0 Tryz.underlying27 Tryz.underlying9 hi hz0 hz1 hz2 (.slice a zs.length cap) _ _ rfl hB0.1 _ rfl (by show zs.length + 5 ≤ maxLen; unfold maxLen; omega) (by show zs.length + 5 ≤ _; omega) hB0.2.size ?_; intro v3 w3 o3 g3; have hbf3 : Bf w1 W w3 v3 (zs ++ [32, 110, 101, 119, 32]) := hB0.put o3 rfl rfl g3; have hl3 : (zs ++ [32, 110, 101, 119, 32]).length = zs.length + 5 := (by simp); have q3 := HQ.out _ hbf3.3; have q4 := HG.out _ hbf3.2; obtain ⟨a3, M3, p3, rfl, hM3⟩ := hbf3.shape2)
    | fail "none")
  all_goals
    rw [List.append_assoc] at hbf5
    go_wp2_with fail
    go_simp
    go_ret
    exact HF.out _ _ hbf5
end Go.Proofs.YtbigjeejmacjcaaGreatDoor
