/- Expressions put behind a text, by the model: calls and make. -/
import Derived.Test.YtbigjeejmacjcaaGreatDoorT40
namespace Go.Proofs.YtbigjeejmacjcaaGreatDoor
open Go.RowKit Go.Lib
set_option maxRecDepth 20000 in
set_option maxHeartbeats 4000000 in
theorem say_6 (A W w : World) (v sv v0 v1 : Value) (zs : List Int) (n tk tn : Int) (h : Bf A W w v zs) (ts : List (List Int)) (nm : List Int) (hks : Kids W sv v1 ts) (hts : ts.length ≤ 1000) (hv0 : RdN W v0 nm) (hn1 : 1 ≤ nm.length) (hb : zs.length + 1 + nm.length + 2 + (joinL ts).length + 2 ≤ 1000000) :
    Calls Tryz.prog 53 #[v, .agg #[.int .i64 6, .int .i64 n, .int .i64 tk, .int .i64 tn, v0, v1], sv] w (SayP A W (zs ++ ([32] ++ nm ++ [32, 40] ++ joinL ts ++ [32, 41]))) := by
  obtain ⟨i0, hi, hz0, hz1, hz2⟩ := info_parts Tryz.info5
  obtain ⟨a, cap, rfl⟩ := h.shape
  obtain ⟨a1, cap1, rfl, hks⟩ := hks
  obtain ⟨g0, off0, q, rfl, hg0, hcells⟩ := nm_cells hv0 hn1
  obtain ⟨w1, hw1⟩ : ∃ w1, Hid (w1 = w.alloc (.cells #[.int .i64 6, .int .i64 n, .int .i64 tk, .int .i64 tn, .slice (some ⟨g0, off0, none⟩) nm.length q, .slice a1 ts.length cap1] 107)) := ⟨_, rfl⟩
  have hA : Bf A W w1 (.slice a zs.length cap) zs := by rw [hw1.out]; exact h.alloc _
  have hbx : BxT w.heap.size w1 [.int .i64 6, .int .i64 n, .int .i64 tk, .int .i64 tn, .slice (some ⟨g0, off0, none⟩) nm.length q, .slice a1 ts.length cap1] 107 := by rw [hw1.out]; exact BxT.new w _ _
  have HF : Hid (∀ v' w', Bf w1 W w' v' (zs ++ ([32] ++ nm ++ [32, 40] ++ joinL ts ++ [32, 41])) → SayP A W (zs ++ ([32] ++ nm ++ [32, 40] ++ joinL ts ++ [32, 41])) (.returned v') w') := fun v' w' h => ⟨v', rfl, h.back hA.3⟩
  have hA1 := hA.from
  clear hA h
  generalize hQ : SayP A W (zs ++ ([32] ++ nm ++ [32, 40] ++ joinL ts ++ [32, 41])) = Q
  rw [hQ] at HF
  have HQ : Hid (∀ w', K8 w1 w' → w'.cell? ⟨w.heap.size, 5, none⟩ = some (.slice a1 ts.length cap1)) := hbx.at (by decide) 5 _ rfl
  have HKs : Hid (∀ (j : Nat) (hj : j < ts.length), Kid W sv (.slice a1 ts.length cap1) ts.length j ts[j]) := hks
  have HQ4 : Hid (∀ w', K8 w1 w' → w'.cell? ⟨w.heap.size, 4, none⟩ = some (.slice (some ⟨g0, off0, none⟩) nm.length q)) := hbx.at (by decide) 4 _ rfl
  have HC : Hid (∀ w', Later W w' → ∀ j u, (nm.map (Value.int .u8))[j]? = some u → w'.cell? ((⟨g0, off0, none⟩ : Addr).add j) = some u) := hcells
  have q1 := HQ4.out w1.drew (Later.drew _).k8
  have q1' := HQ4.out (w1.alloc (.cells #[.int .u8 32] 5)).drew ((later1 _ _).trans (Later.drew _)).k8
  have hB1 := (hA1.alloc (.cells #[.int .u8 32] 5)).later (Later.drew _)
  have hS1 := Later.ones (Later.drew (w1.alloc (.cells #[.int .u8 32] 5))) (g := w1.heap.size) (by simp) (new_oneb w1 32)
  obtain ⟨X, hX⟩ : ∃ X, Hid (X = nm.map (Value.int .u8)) := ⟨_, rfl⟩
  have hXl : X.length = nm.length := by rw [hX.out]; simp
  have hX1 : ∀ u ∈ X, u.oneCell' = true := by rw [hX.out]; exact one_all nm
  rw [← hX.out] at HC
  clear hbx hcells hv0 hks
  go_enter Tryz.func53, Tryz.ntmps53
  go_wp2_with fail
  rw [← hw1.out]
  go_region_law (first
    | (have _g := hbf3; (refine step_append_own2 rfl _ _ 27 rfl W.heap.size 5 i0 (.int .u8 0) 1 1 Tryz.underlying27 hi hz0 hz1 hz2 rfl (by decide) (.slice a3 M3 p3) _ _ rfl hbf3.1 ⟨g0, off0, none⟩ nm.length q X rfl (by rw [hXl, Nat.mul_one]) (HC.out _ hbf3.2) hX1 (by rw [hl3]; unfold maxLen; omega) (by rw [hl3]; omega) hbf3.2.size ?_; intro v5 w5 o5 g5; have hbH := hbf3.put o5 rfl hX.out g5))
    | (refine step_append_own2 rfl _ _ 27 rfl W.heap.size 5 i0 (.int .u8 0) 1 1 Tryz.underlying27 hi hz0 hz1 hz2 rfl (by decide) (.slice a zs.length cap) _ _ rfl hB1.1 ⟨_, 0, none⟩ 1 1 [.int .u8 32] rfl rfl hS1 (by simp [Value.oneCell']) (by unfold maxLen; omega) (by omega) hB1.2.size ?_; intro v3 w3 o3 g3; have hbf3 : Bf w1 W w3 v3 (zs ++ [32]) := hB1.put o3 rfl rfl g3; have hl3 : (zs ++ [32]).length = zs.length + 1 := (by simp); have q3 := HQ4.out _ hbf3.3; obtain ⟨a3, M3, p3, rfl, hM3⟩ := hbf3.shape2)
    | fail "none")
  all_goals
    have hlH : (zs ++ [32] ++ nm).length = zs.length + 1 + nm.length := by simp; omega
    obtain ⟨aH, MH, pH, rfl, hMH⟩ := hbH.shape2
    go_wp2_with (at_builtin; refine Go.Lib.wpList_append_own_string _ rfl _ _ 27 9 rfl W.heap.size 5 i0 Tryz.underlying27 Tryz.underlying9 hi hz0 hz1 hz2 (.slice aH MH pH) _ _ rfl hbH.1 _ rfl (by rw [hlH]; show _ + 2 ≤ maxLen; unfold maxLen; omega) (by rw [hlH]; show _ + 2 ≤ _; omega) hbH.2.size ?_; intro v5 w5 o5 g5 _; have hb5 := hbH.put o5 (ts := [32, 40]) rfl rfl g5; have hl5 : ((zs ++ [32] ++ nm) ++ [32, 40]).length = zs.length + 1 + nm.length + 2 := (by rw [List.length_append, hlH]; rfl); obtain ⟨a5, M5, p5, rfl, hM5⟩ := hb5.shape2)
    go_loopw [0, 7] (fun b i wr => ∃ j : Nat, i = .int .i64 (j : Int) ∧ j ≤ ts.length ∧ Bf w1 W wr b ((zs ++ [32] ++ nm) ++ [32, 40] ++ joinL (ts.take j))) (fun _ i _ => ts.length - (intOf i).toNat)
    case atStart => exact ⟨0, rfl, Nat.zero_le _, by simpa [joinL] using hb5⟩
    case round =>
      obtain ⟨j, rfl, hj, hbr⟩ := hrel
      have qr := HQ.out _ hbr.3
      obtain ⟨ar, Mr, pr, rfl, hMr⟩ := hbr.shape2
      by_cases hlt : j < ts.length
      · obtain ⟨_, g, off, cap', k, n', tk', tn', y0, y1, e1, _, hcl, hcall⟩ := HKs.out j hlt
        have HCL : Hid (∀ w', Later W w' → w'.cell? ⟨g, off + j * 6, none⟩ = some (.int .i64 k) ∧ w'.cell? ⟨g, off + j * 6 + 1, none⟩ = some (.int .i64 n') ∧ w'.cell? ⟨g, off + j * 6 + 2, none⟩ = some (.int .i64 tk') ∧ w'.cell? ⟨g, off + j * 6 + 3, none⟩ = some (.int .i64 tn') ∧ w'.cell? ⟨g, off + j * 6 + 4, none⟩ = some y0 ∧ w'.cell? ⟨g, off + j * 6 + 5, none⟩ = some y1) := hcl
        cases e1
        have hat := joinL_at ts j hlt
        have i1 : (j : Int) < (ts.length : Int) := by omega
        have hlr : ((zs ++ [32] ++ nm) ++ [32, 40] ++ joinL (ts.take j)).length = zs.length + 1 + nm.length + 2 + (joinL (ts.take j)).length := by rw [List.length_append, hl5]
        clear hcl
        by_cases h0 : j = 0
        · rw [if_pos h0] at hat
          have h0' : Hid (j = 0) := h0
          obtain ⟨d0, d1, d2, d3, d4, d5⟩ := HCL.out _ hbr.2
          have i2 : ¬ (0 : Int) < (j : Int) := by omega
          clear h0
          go_wp2_with fail
          refine (hcall _ _ _ _ hbr (by rw [hlr]; omega)).mono ?_
          rintro e wn ⟨vn, rfl, hbn⟩
          have hbn' : Bf w1 W wn vn ((zs ++ [32] ++ nm) ++ [32, 40] ++ joinL (ts.take (j + 1))) := by rw [joinL_step ts j hlt, if_pos h0'.out]; simpa only [List.append_assoc, List.nil_append, List.append_nil] using hbn
          go_wp2_with fail
          go_roundw
          case rel => exact ⟨j + 1, by go_num, by omega, hbn'⟩
          case measure => simp [intOf]; omega
        · rw [if_neg h0] at hat
          have i2 : (0 : Int) < (j : Int) := by omega
          go_wp2_with (at_builtin; refine Go.Lib.wpList_append_own_string _ rfl _ _ 27 9 rfl W.heap.size 5 i0 Tryz.underlying27 Tryz.underlying9 hi hz0 hz1 hz2 (.slice ar Mr pr) _ _ rfl hbr.1 _ rfl (by rw [hlr]; show _ + 2 ≤ maxLen; unfold maxLen; omega) (by rw [hlr]; show _ + 2 ≤ _; omega) hbr.2.size ?_; intro v8 w8 o8 g8 _; have hb8 := hbr.put o8 (ts := [32, 44]) rfl rfl g8; have q8 := HQ.out _ hb8.3; obtain ⟨d0, d1, d2, d3, d4, d5⟩ := HCL.out _ hb8.2; have hl8 : ((zs ++ [32] ++ nm) ++ [32, 40] ++ joinL (ts.take j) ++ [32, 44]).length = zs.length + 1 + nm.length + 2 + (joinL (ts.take j)).length + 2 := (by rw [List.length_append, hlr]; rfl); obtain ⟨a8, M8, p8, rfl, hM8⟩ := hb8.shape2)
          refine (hcall _ _ _ _ hb8 (by rw [hl8]; omega)).mono ?_
          rintro e wn ⟨vn, rfl, hbn⟩
          have hbn' : Bf w1 W wn vn ((zs ++ [32] ++ nm) ++ [32, 40] ++ joinL (ts.take (j + 1))) := by rw [joinL_step ts j hlt, if_neg h0]; simpa only [List.append_assoc, List.nil_append, List.append_nil] using hbn
          go_wp2_with fail
          go_roundw
          case rel => exact ⟨j + 1, by go_num, by omega, hbn'⟩
          case measure => simp [intOf]; omega
      · have hje : j = ts.length := by omega
        have i1 : ¬ (j : Int) < (ts.length : Int) := by omega
        have hte : ts.take j = ts := by rw [hje]; exact List.take_length
        have hlr : ((zs ++ [32] ++ nm) ++ [32, 40] ++ joinL (ts.take j)).length = zs.length + 1 + nm.length + 2 + (joinL (ts.take j)).length := by rw [List.length_append, hl5]
        rw [hte] at hbr hlr hMr
        go_wp2_with (at_builtin; refine Go.Lib.wpList_append_own_string _ rfl _ _ 27 9 rfl W.heap.size 5 i0 Tryz.underlying27 Tryz.underlying9 hi hz0 hz1 hz2 (.slice ar Mr pr) _ _ rfl hbr.1 _ rfl (by rw [hlr]; show _ + 2 ≤ maxLen; unfold maxLen; omega) (by rw [hlr]; show _ + 2 ≤ _; omega) hbr.2.size ?_; intro v9 w9 o9 g9 _; have hb9 := hbr.put o9 (ts := [32, 41]) rfl rfl g9)
        rw [show (zs ++ [32] ++ nm) ++ [32, 40] ++ joinL ts ++ [32, 41] = zs ++ ([32] ++ nm ++ [32, 40] ++ joinL ts ++ [32, 41]) by simp only [List.append_assoc]] at hb9
        exact HF.out _ _ hb9
set_option maxRecDepth 20000 in
set_option maxHeartbeats 4000000 in
theorem say_5 (A W w : World) (v sv v0 v1 : Value) (zs : List Int) (n tk tn : Int) (h : Bf A W w v zs) (l : List Sc) (hl : RdL W 2 sv (Sc.dats l)) (hk : tk = 3 ∨ tk = 6 → 0 ≤ tn ∧ tn < l.length) (hnm : ∀ x ∈ l, 1 ≤ x.name.length ∧ x.name.length ≤ 1000) (ts : List (List Int)) (hks : Kids W sv v1 ts) (hts : ts.length ≤ 1000) (hb : zs.length + 5 + (sayTy l tk tn).length + 2 + (joinL ts).length + 2 ≤ 1000000) :
    Calls Tryz.prog 53 #[v, .agg #[.int .i64 5, .int .i64 n, .int .i64 tk, .int .i64 tn, v0, v1], sv] w (SayP A W (zs ++ ([32, 109, 97, 107, 101] ++ sayTy l tk tn ++ [32, 40] ++ joinL ts ++ [32, 41]))) := by
  obtain ⟨i0, hi, hz0, hz1, hz2⟩ := info_parts Tryz.info5
  obtain ⟨a, cap, rfl⟩ := h.shape
  obtain ⟨a1, cap1, rfl, hks⟩ := hks
  obtain ⟨w1, hw1⟩ : ∃ w1, Hid (w1 = w.alloc (.cells #[.int .i64 5, .int .i64 n, .int .i64 tk, .int .i64 tn, v0, .slice a1 ts.length cap1] 107)) := ⟨_, rfl⟩
  have hA : Bf A W w1 (.slice a zs.length cap) zs := by rw [hw1.out]; exact h.alloc _
  have hbx : BxT w.heap.size w1 [.int .i64 5, .int .i64 n, .int .i64 tk, .int .i64 tn, v0, .slice a1 ts.length cap1] 107 := by rw [hw1.out]; exact BxT.new w _ _
  have HF : Hid (∀ v' w', Bf w1 W w' v' (zs ++ ([32, 109, 97, 107, 101] ++ sayTy l tk tn ++ [32, 40] ++ joinL ts ++ [32, 41])) → SayP A W (zs ++ ([32, 109, 97, 107, 101] ++ sayTy l tk tn ++ [32, 40] ++ joinL ts ++ [32, 41])) (.returned v') w') := fun v' w' h => ⟨v', rfl, h.back hA.3⟩
  have hA1 := hA.from
  clear hA h
  generalize hQ : SayP A W (zs ++ ([32, 109, 97, 107, 101] ++ sayTy l tk tn ++ [32, 40] ++ joinL ts ++ [32, 41])) = Q
  rw [hQ] at HF
  have HQ : Hid (∀ w', K8 w1 w' → w'.cell? ⟨w.heap.size, 5, none⟩ = some (.slice a1 ts.length cap1)) := hbx.at (by decide) 5 _ rfl
  have HKs : Hid (∀ (j : Nat) (hj : j < ts.length), Kid W sv (.slice a1 ts.length cap1) ts.length j ts[j]) := hks
  have HT : Hid (∀ A w v zs, Bf A W w v zs → zs.length ≤ 1000000 → Calls Tryz.prog 29 #[v, .agg #[.int .i64 tk, .int .i64 tn], sv] w (SayP A W (zs ++ sayTy l tk tn))) := fun A w v zs h hb => sayTy_any A W w v zs l tk tn sv h hb hl hk hnm
  have HQ2 : Hid (∀ w', K8 w1 w' → w'.cell? ⟨w.heap.size, 2, none⟩ = some (.int .i64 tk)) := hbx.at (by decide) 2 _ rfl
  have HQ3 : Hid (∀ w', K8 w1 w' → w'.cell? ⟨w.heap.size, 3, none⟩ = some (.int .i64 tn)) := hbx.at (by decide) 3 _ rfl
  generalize sayTy l tk tn = ty at *
  have hB0 := hA1.later (Later.drew _)
  have q2 := HQ2.out w1.drew hB0.3
  have q3 := HQ3.out w1.drew hB0.3
  clear hbx hks hl hk hnm
  go_enter Tryz.func53, Tryz.ntmps53
  go_wp2_with fail
  rw [← hw1.out]
  go_region_law (first
    | ((have _g := hb3); (refine step_call rfl 29 en_ty _ _ rfl [.slice a3 M3 p3, .agg #[.int .i64 tk, .int .i64 tn], sv] rfl (fun v w' => Bf w1 W w' v (zs ++ [32, 109, 97, 107, 101] ++ ty)) (HT.out _ _ _ _ hb3 (by rw [hl3]; omega)) ?_; intro v4 w4 hbH))
    | (refine step_append_str rfl _ _ 27 9 rfl W.heap.size 5 i0 Tryz.underlying27 Tryz.underlying9 hi hz0 hz1 hz2 (.slice a zs.length cap) _ _ rfl hB0.1 _ rfl (by show _ + 5 ≤ maxLen; unfold maxLen; omega) (by show _ + 5 ≤ _; omega) hB0.2.size ?_; intro v3 w3 o3 g3; have hb3 : Bf w1 W w3 v3 (zs ++ [32, 109, 97, 107, 101]) := hB0.put o3 rfl rfl g3; have hl3 : (zs ++ [32, 109, 97, 107, 101]).length = zs.length + 5 := (by simp); have q4 := HQ2.out _ hb3.3; have q5 := HQ3.out _ hb3.3; obtain ⟨a3, M3, p3, rfl, hM3⟩ := hb3.shape2)
    | fail "none")
  all_goals
    have hlH : (zs ++ [32, 109, 97, 107, 101] ++ ty).length = zs.length + 5 + ty.length := by simp; omega
    obtain ⟨aH, MH, pH, rfl, hMH⟩ := hbH.shape2
    go_wp2_with (at_builtin; refine Go.Lib.wpList_append_own_string _ rfl _ _ 27 9 rfl W.heap.size 5 i0 Tryz.underlying27 Tryz.underlying9 hi hz0 hz1 hz2 (.slice aH MH pH) _ _ rfl hbH.1 _ rfl (by rw [hlH]; show _ + 2 ≤ maxLen; unfold maxLen; omega) (by rw [hlH]; show _ + 2 ≤ _; omega) hbH.2.size ?_; intro v5 w5 o5 g5 _; have hb5 := hbH.put o5 (ts := [32, 40]) rfl rfl g5; have hl5 : ((zs ++ [32, 109, 97, 107, 101] ++ ty) ++ [32, 40]).length = zs.length + 5 + ty.length + 2 := (by rw [List.length_append, hlH]; rfl); obtain ⟨a5, M5, p5, rfl, hM5⟩ := hb5.shape2)
    go_loopw [0, 7] (fun b i wr => ∃ j : Nat, i = .int .i64 (j : Int) ∧ j ≤ ts.length ∧ Bf w1 W wr b ((zs ++ [32, 109, 97, 107, 101] ++ ty) ++ [32, 40] ++ joinL (ts.take j))) (fun _ i _ => ts.length - (intOf i).toNat)
    case atStart => exact ⟨0, rfl, Nat.zero_le _, by simpa [joinL] using hb5⟩
    case round =>
      obtain ⟨j, rfl, hj, hbr⟩ := hrel
      have qr := HQ.out _ hbr.3
      obtain ⟨ar, Mr, pr, rfl, hMr⟩ := hbr.shape2
      by_cases hlt : j < ts.length
      · obtain ⟨_, g, off, cap', k, n', tk', tn', y0, y1, e1, _, hcl, hcall⟩ := HKs.out j hlt
        have HCL : Hid (∀ w', Later W w' → w'.cell? ⟨g, off + j * 6, none⟩ = some (.int .i64 k) ∧ w'.cell? ⟨g, off + j * 6 + 1, none⟩ = some (.int .i64 n') ∧ w'.cell? ⟨g, off + j * 6 + 2, none⟩ = some (.int .i64 tk') ∧ w'.cell? ⟨g, off + j * 6 + 3, none⟩ = some (.int .i64 tn') ∧ w'.cell? ⟨g, off + j * 6 + 4, none⟩ = some y0 ∧ w'.cell? ⟨g, off + j * 6 + 5, none⟩ = some y1) := hcl
        cases e1
        have hat := joinL_at ts j hlt
        have i1 : (j : Int) < (ts.length : Int) := by omega
        have hlr : ((zs ++ [32, 109, 97, 107, 101] ++ ty) ++ [32, 40] ++ joinL (ts.take j)).length = zs.length + 5 + ty.length + 2 + (joinL (ts.take j)).length := by rw [List.length_append, hl5]
        clear hcl
        by_cases h0 : j = 0
        · rw [if_pos h0] at hat
          have h0' : Hid (j = 0) := h0
          obtain ⟨d0, d1, d2, d3, d4, d5⟩ := HCL.out _ hbr.2
          have i2 : ¬ (0 : Int) < (j : Int) := by omega
          clear h0
          go_wp2_with fail
          refine (hcall _ _ _ _ hbr (by rw [hlr]; omega)).mono ?_
          rintro e wn ⟨vn, rfl, hbn⟩
          have hbn' : Bf w1 W wn vn ((zs ++ [32, 109, 97, 107, 101] ++ ty) ++ [32, 40] ++ joinL (ts.take (j + 1))) := by rw [joinL_step ts j hlt, if_pos h0'.out]; simpa only [List.append_assoc, List.nil_append, List.append_nil] using hbn
          go_wp2_with fail
          go_roundw
          case rel => exact ⟨j + 1, by go_num, by omega, hbn'⟩
          case measure => simp [intOf]; omega
        · rw [if_neg h0] at hat
          have i2 : (0 : Int) < (j : Int) := by omega
          go_wp2_with (at_builtin; refine Go.Lib.wpList_append_own_string _ rfl _ _ 27 9 rfl W.heap.size 5 i0 Tryz.underlying27 Tryz.underlying9 hi hz0 hz1 hz2 (.slice ar Mr pr) _ _ rfl hbr.1 _ rfl (by rw [hlr]; show _ + 2 ≤ maxLen; unfold maxLen; omega) (by rw [hlr]; show _ + 2 ≤ _; omega) hbr.2.size ?_; intro v8 w8 o8 g8 _; have hb8 := hbr.put o8 (ts := [32, 44]) rfl rfl g8; have q8 := HQ.out _ hb8.3; obtain ⟨d0, d1, d2, d3, d4, d5⟩ := HCL.out _ hb8.2; have hl8 : ((zs ++ [32, 109, 97, 107, 101] ++ ty) ++ [32, 40] ++ joinL (ts.take j) ++ [32, 44]).length = zs.length + 5 + ty.length + 2 + (joinL (ts.take j)).length + 2 := (by rw [List.length_append, hlr]; rfl); obtain ⟨a8, M8, p8, rfl, hM8⟩ := hb8.shape2)
          refine (hcall _ _ _ _ hb8 (by rw [hl8]; omega)).mono ?_
          rintro e wn ⟨vn, rfl, hbn⟩
          have hbn' : Bf w1 W wn vn ((zs ++ [32, 109, 97, 107, 101] ++ ty) ++ [32, 40] ++ joinL (ts.take (j + 1))) := by rw [joinL_step ts j hlt, if_neg h0]; simpa only [List.append_assoc, List.nil_append, List.append_nil] using hbn
          go_wp2_with fail
          go_roundw
          case rel => exact ⟨j + 1, by go_num, by omega, hbn'⟩
          case measure => simp [intOf]; omega
      · have hje : j = ts.length := by omega
        have i1 : ¬ (j : Int) < (ts.length : Int) := by omega
        have hte : ts.take j = ts := by rw [hje]; exact List.take_length
        have hlr : ((zs ++ [32, 109, 97, 107, 101] ++ ty) ++ [32, 40] ++ joinL (ts.take j)).length = zs.length + 5 + ty.length + 2 + (joinL (ts.take j)).length := by rw [List.length_append, hl5]
        rw [hte] at hbr hlr hMr
        go_wp2_with (at_builtin; refine Go.Lib.wpList_append_own_string _ rfl _ _ 27 9 rfl W.heap.size 5 i0 Tryz.underlying27 Tryz.underlying9 hi hz0 hz1 hz2 (.slice ar Mr pr) _ _ rfl hbr.1 _ rfl (by rw [hlr]; show _ + 2 ≤ maxLen; unfold maxLen; omega) (by rw [hlr]; show _ + 2 ≤ _; omega) hbr.2.size ?_; intro v9 w9 o9 g9 _; have hb9 := hbr.put o9 (ts := [32, 41]) rfl rfl g9)
        rw [show (zs ++ [32, 109, 97, 107, 101] ++ ty) ++ [32, 40] ++ joinL ts ++ [32, 41] = zs ++ ([32, 109, 97, 107, 101] ++ ty ++ [32, 40] ++ joinL ts ++ [32, 41]) by simp only [List.append_assoc]] at hb9
        exact HF.out _ _ hb9
end Go.Proofs.YtbigjeejmacjcaaGreatDoor
