/- Expressions put behind a text, by the model: what is written like a call. -/
import Derived.Test.YtbigjeejmacjcaaGreatDoorT39
namespace Go.Proofs.YtbigjeejmacjcaaGreatDoor
open Go.RowKit Go.Lib
theorem tailL_app (x y : List (List Int)) : tailL (x ++ y) = tailL x ++ tailL y := by
  induction x with
  | nil => rfl
  | cons a r ih => rw [List.cons_append, tailL, tailL, ih]; simp only [List.append_assoc]
theorem joinL_step (ts : List (List Int)) (j : Nat) (h : j < ts.length) : joinL (ts.take (j + 1)) = joinL (ts.take j) ++ (if j = 0 then [] else [32, 44]) ++ ts[j] := by
  cases ts with
  | nil => simp at h
  | cons x r =>
    cases j with
    | zero => simp [joinL, tailL]
    | succ j =>
      have hj : j < r.length := by simpa using h
      rw [List.take_succ_cons, List.take_succ_cons, joinL, joinL, List.take_add_one, tailL_app, List.getElem?_eq_getElem hj]
      simp [tailL]
theorem joinL_pre (ts : List (List Int)) (j : Nat) : (joinL (ts.take j)).length ≤ (joinL ts).length := by
  have h : ∀ x y : List (List Int), (joinL x).length ≤ (joinL (x ++ y)).length := by
    intro x y
    cases x with
    | nil => simp [joinL]
    | cons a r => rw [List.cons_append, joinL, joinL, tailL_app]; simp only [List.length_append]; omega
  have := h (ts.take j) (ts.drop j)
  rwa [List.take_append_drop] at this
theorem joinL_at (ts : List (List Int)) (j : Nat) (h : j < ts.length) : (joinL (ts.take j)).length + (if j = 0 then 0 else 2) + ts[j].length ≤ (joinL ts).length := by
  have h1 := joinL_pre ts (j + 1)
  rw [joinL_step ts j h] at h1
  by_cases h0 : j = 0
  · rw [if_pos h0] at h1 ⊢; simp only [List.length_append, List.length_nil] at h1; omega
  · rw [if_neg h0] at h1 ⊢; simp only [List.length_append, List.length_cons, List.length_nil] at h1; omega
def Kids (W : World) (sv v1 : Value) (ts : List (List Int)) : Prop := ∃ a1 cap1, v1 = .slice a1 ts.length cap1 ∧ ∀ (j : Nat) (hj : j < ts.length), Kid W sv (.slice a1 ts.length cap1) ts.length j ts[j]
set_option maxRecDepth 20000 in
set_option maxHeartbeats 4000000 in
theorem say_9 (A W w : World) (v sv v0 v1 : Value) (zs : List Int) (n tk tn : Int) (h : Bf A W w v zs) (ts : List (List Int)) (hks : Kids W sv v1 ts) (hts : ts.length ≤ 1000) (hb : zs.length + 4 + 2 + (joinL ts).length + 2 ≤ 1000000) :
    Calls Tryz.prog 53 #[v, .agg #[.int .i64 9, .int .i64 n, .int .i64 tk, .int .i64 tn, v0, v1], sv] w (SayP A W (zs ++ ([32, 108, 101, 110] ++ [32, 40] ++ joinL ts ++ [32, 41]))) := by
  obtain ⟨i0, hi, hz0, hz1, hz2⟩ := info_parts Tryz.info5
  obtain ⟨a, cap, rfl⟩ := h.shape
  obtain ⟨a1, cap1, rfl, hks⟩ := hks
  obtain ⟨w1, hw1⟩ : ∃ w1, Hid (w1 = w.alloc (.cells #[.int .i64 9, .int .i64 n, .int .i64 tk, .int .i64 tn, v0, .slice a1 ts.length cap1] 107)) := ⟨_, rfl⟩
  have hA : Bf A W w1 (.slice a zs.length cap) zs := by rw [hw1.out]; exact h.alloc _
  have hbx : BxT w.heap.size w1 [.int .i64 9, .int .i64 n, .int .i64 tk, .int .i64 tn, v0, .slice a1 ts.length cap1] 107 := by rw [hw1.out]; exact BxT.new w _ _
  have HF : Hid (∀ v' w', Bf w1 W w' v' (zs ++ ([32, 108, 101, 110] ++ [32, 40] ++ joinL ts ++ [32, 41])) → SayP A W (zs ++ ([32, 108, 101, 110] ++ [32, 40] ++ joinL ts ++ [32, 41])) (.returned v') w') := fun v' w' h => ⟨v', rfl, h.back hA.3⟩
  have hA1 := hA.from
  clear hA h
  generalize hQ : SayP A W (zs ++ ([32, 108, 101, 110] ++ [32, 40] ++ joinL ts ++ [32, 41])) = Q
  rw [hQ] at HF
  have HQ : Hid (∀ w', K8 w1 w' → w'.cell? ⟨w.heap.size, 5, none⟩ = some (.slice a1 ts.length cap1)) := hbx.at (by decide) 5 _ rfl
  have HKs : Hid (∀ (j : Nat) (hj : j < ts.length), Kid W sv (.slice a1 ts.length cap1) ts.length j ts[j]) := hks
  have hl1 : zs.length = zs.length := rfl
  clear hbx hks
  have hw1' := hw1
  rw [hw1.out] at hA1
  go_enter Tryz.func53, Tryz.ntmps53
  go_wp2_with (first | ((have _g := hbH); (at_builtin; refine Go.Lib.wpList_append_own_string _ rfl _ _ 27 9 rfl W.heap.size 5 i0 Tryz.underlying27 Tryz.underlying9 hi hz0 hz1 hz2 (.slice aH MH pH) _ _ rfl hbH.1 _ rfl (by rw [hlH]; show _ + 2 ≤ maxLen; unfold maxLen; omega) (by rw [hlH]; show _ + 2 ≤ _; omega) hbH.2.size ?_; intro v5 w5 o5 g5 _; have hb5 := hbH.put o5 (ts := [32, 40]) rfl rfl g5; have hl5 : ((zs ++ [32, 108, 101, 110]) ++ [32, 40]).length = zs.length + 4 + 2 := (by rw [List.length_append, hlH]; rfl); obtain ⟨a5, M5, p5, rfl, hM5⟩ := hb5.shape2)) | (at_builtin; refine Go.Lib.wpList_append_own_string _ rfl _ _ 27 9 rfl W.heap.size 5 i0 Tryz.underlying27 Tryz.underlying9 hi hz0 hz1 hz2 (.slice a zs.length cap) _ _ rfl hA1.1 _ rfl (by rw [hl1]; show _ + 4 ≤ maxLen; unfold maxLen; omega) (by rw [hl1]; show _ + 4 ≤ _; omega) hA1.2.size ?_; intro v3 w3 o3 g3 _; have hb3 := hA1.put o3 (ts := [32, 108, 101, 110]) rfl rfl g3; have hbH : Bf w1 W w3 v3 (zs ++ [32, 108, 101, 110]) := (by rw [hw1'.out]; exact hb3); have hlH : (zs ++ [32, 108, 101, 110]).length = zs.length + 4 := (by simp); obtain ⟨aH, MH, pH, rfl, hMH⟩ := hbH.shape2))
  go_loopw [0, 7] (fun b i wr => ∃ j : Nat, i = .int .i64 (j : Int) ∧ j ≤ ts.length ∧ Bf w1 W wr b ((zs ++ [32, 108, 101, 110]) ++ [32, 40] ++ joinL (ts.take j))) (fun _ i _ => ts.length - (intOf i).toNat)
  case atStart => exact ⟨0, rfl, Nat.zero_le _, by simpa [joinL] using hb5⟩
  case round =>
    obtain ⟨j, rfl, hj, hbr⟩ := hrel
    have qr := HQ.out _ hbr.3
    obtain ⟨ar, Mr, pr, rfl, hMr⟩ := hbr.shape2
    by_cases hlt : j < ts.length
    · obtain ⟨_, g, off, cap', k, n', tk', tn', y0, y1, e1, _, hcl, hcall⟩ := HKs.out j hlt
      have HCL : Hid (∀ w', Later W w' → w'.cell? ⟨g, off + j * 6, none⟩ = some (.int .i64 k) ∧ w'.cell? ⟨g, off + j * 6 + 1, none⟩ = some (.int .i64 n') ∧ w'.cell? ⟨g, off + j * 6 + 2, none⟩ = some (.int .i64 tk') ∧ w'.cell? ⟨g, off + j * 6 + 3, none⟩ = some (.int .i64 tn') ∧ w'.cell? ⟨g, off + j * 6 + 4, none⟩ = some y0 ∧ w'.cell? ⟨g, off + j * 6 + 5, none⟩ = some y1) := hcl
      cases e1
      have hat := joinL_at ts j hlt
      have i1 : (j : Int) < (ts.length : Int) := by omega
      have hlr : ((zs ++ [32, 108, 101, 110]) ++ [32, 40] ++ joinL (ts.take j)).length = zs.length + 4 + 2 + (joinL (ts.take j)).length := by rw [List.length_append, hl5]
      clear hcl
      by_cases h0 : j = 0
      · rw [if_pos h0] at hat
        have h0' : Hid (j = 0) := h0
        obtain ⟨d0, d1, d2, d3, d4, d5⟩ := HCL.out _ hbr.2
        have i2 : ¬ (0 : Int) < (j : Int) := by omega
        clear h0
        go_wp2_with fail
        refine (hcall _ _ _ _ hbr (by rw [hlr]; omega)).mono ?_
        rintro e wn ⟨vn, rfl, hbn⟩
        have hbn' : Bf w1 W wn vn ((zs ++ [32, 108, 101, 110]) ++ [32, 40] ++ joinL (ts.take (j + 1))) := by rw [joinL_step ts j hlt, if_pos h0'.out]; simpa only [List.append_assoc, List.nil_append, List.append_nil] using hbn
        go_wp2_with fail
        go_roundw
        case rel => exact ⟨j + 1, by go_num, by omega, hbn'⟩
        case measure => simp [intOf]; omega
      · rw [if_neg h0] at hat
        have i2 : (0 : Int) < (j : Int) := by omega
        go_wp2_with (at_builtin; refine Go.Lib.wpList_append_own_string _ rfl _ _ 27 9 rfl W.heap.size 5 i0 Tryz.underlying27 Tryz.underlying9 hi hz0 hz1 hz2 (.slice ar Mr pr) _ _ rfl hbr.1 _ rfl (by rw [hlr]; show _ + 2 ≤ maxLen; unfold maxLen; omega) (by rw [hlr]; show _ + 2 ≤ _; omega) hbr.2.size ?_; intro v8 w8 o8 g8 _; have hb8 := hbr.put o8 (ts := [32, 44]) rfl rfl g8; have q8 := HQ.out _ hb8.3; obtain ⟨d0, d1, d2, d3, d4, d5⟩ := HCL.out _ hb8.2; have hl8 : ((zs ++ [32, 108, 101, 110]) ++ [32, 40] ++ joinL (ts.take j) ++ [32, 44]).length = zs.length + 4 + 2 + (joinL (ts.take j)).length + 2 := (by rw [List.length_append, hlr]; rfl); obtain ⟨a8, M8, p8, rfl, hM8⟩ := hb8.shape2)
        refine (hcall _ _ _ _ hb8 (by rw [hl8]; omega)).mono ?_
        rintro e wn ⟨vn, rfl, hbn⟩
        have hbn' : Bf w1 W wn vn ((zs ++ [32, 108, 101, 110]) ++ [32, 40] ++ joinL (ts.take (j + 1))) := by rw [joinL_step ts j hlt, if_neg h0]; simpa only [List.append_assoc, List.nil_append, List.append_nil] using hbn
        go_wp2_with fail
        go_roundw
        case rel => exact ⟨j + 1, by go_num, by omega, hbn'⟩
        case measure => simp [intOf]; omega
    · have hje : j = ts.length := by omega
      have i1 : ¬ (j : Int) < (ts.length : Int) := by omega
      have hte : ts.take j = ts := by rw [hje]; exact List.take_length
      have hlr : ((zs ++ [32, 108, 101, 110]) ++ [32, 40] ++ joinL (ts.take j)).length = zs.length + 4 + 2 + (joinL (ts.take j)).length := by rw [List.length_append, hl5]
      rw [hte] at hbr hlr hMr
      go_wp2_with (at_builtin; refine Go.Lib.wpList_append_own_string _ rfl _ _ 27 9 rfl W.heap.size 5 i0 Tryz.underlying27 Tryz.underlying9 hi hz0 hz1 hz2 (.slice ar Mr pr) _ _ rfl hbr.1 _ rfl (by rw [hlr]; show _ + 2 ≤ maxLen; unfold maxLen; omega) (by rw [hlr]; show _ + 2 ≤ _; omega) hbr.2.size ?_; intro v9 w9 o9 g9 _; have hb9 := hbr.put o9 (ts := [32, 41]) rfl rfl g9)
      rw [show (zs ++ [32, 108, 101, 110]) ++ [32, 40] ++ joinL ts ++ [32, 41] = zs ++ ([32, 108, 101, 110] ++ [32, 40] ++ joinL ts ++ [32, 41]) by simp only [List.append_assoc]] at hb9
      exact HF.out _ _ hb9
set_option maxRecDepth 20000 in
set_option maxHeartbeats 4000000 in
theorem say_12 (A W w : World) (v sv v0 v1 : Value) (zs : List Int) (n tk tn : Int) (h : Bf A W w v zs) (ts : List (List Int)) (hks : Kids W sv v1 ts) (hts : ts.length ≤ 1000) (hb : zs.length + 4 + 2 + (joinL ts).length + 2 ≤ 1000000) :
    Calls Tryz.prog 53 #[v, .agg #[.int .i64 12, .int .i64 n, .int .i64 tk, .int .i64 tn, v0, v1], sv] w (SayP A W (zs ++ ([32, 105, 110, 116] ++ [32, 40] ++ joinL ts ++ [32, 41]))) := by
  obtain ⟨i0, hi, hz0, hz1, hz2⟩ := info_parts Tryz.info5
  obtain ⟨a, cap, rfl⟩ := h.shape
  obtain ⟨a1, cap1, rfl, hks⟩ := hks
  obtain ⟨w1, hw1⟩ : ∃ w1, Hid (w1 = w.alloc (.cells #[.int .i64 12, .int .i64 n, .int .i64 tk, .int .i64 tn, v0, .slice a1 ts.length cap1] 107)) := ⟨_, rfl⟩
  have hA : Bf A W w1 (.slice a zs.length cap) zs := by rw [hw1.out]; exact h.alloc _
  have hbx : BxT w.heap.size w1 [.int .i64 12, .int .i64 n, .int .i64 tk, .int .i64 tn, v0, .slice a1 ts.length cap1] 107 := by rw [hw1.out]; exact BxT.new w _ _
  have HF : Hid (∀ v' w', Bf w1 W w' v' (zs ++ ([32, 105, 110, 116] ++ [32, 40] ++ joinL ts ++ [32, 41])) → SayP A W (zs ++ ([32, 105, 110, 116] ++ [32, 40] ++ joinL ts ++ [32, 41])) (.returned v') w') := fun v' w' h => ⟨v', rfl, h.back hA.3⟩
  have hA1 := hA.from
  clear hA h
  generalize hQ : SayP A W (zs ++ ([32, 105, 110, 116] ++ [32, 40] ++ joinL ts ++ [32, 41])) = Q
  rw [hQ] at HF
  have HQ : Hid (∀ w', K8 w1 w' → w'.cell? ⟨w.heap.size, 5, none⟩ = some (.slice a1 ts.length cap1)) := hbx.at (by decide) 5 _ rfl
  have HKs : Hid (∀ (j : Nat) (hj : j < ts.length), Kid W sv (.slice a1 ts.length cap1) ts.length j ts[j]) := hks
  have hl1 : zs.length = zs.length := rfl
  clear hbx hks
  have hw1' := hw1
  rw [hw1.out] at hA1
  go_enter Tryz.func53, Tryz.ntmps53
  go_wp2_with (first | ((have _g := hbH); (at_builtin; refine Go.Lib.wpList_append_own_string _ rfl _ _ 27 9 rfl W.heap.size 5 i0 Tryz.underlying27 Tryz.underlying9 hi hz0 hz1 hz2 (.slice aH MH pH) _ _ rfl hbH.1 _ rfl (by rw [hlH]; show _ + 2 ≤ maxLen; unfold maxLen; omega) (by rw [hlH]; show _ + 2 ≤ _; omega) hbH.2.size ?_; intro v5 w5 o5 g5 _; have hb5 := hbH.put o5 (ts := [32, 40]) rfl rfl g5; have hl5 : ((zs ++ [32, 105, 110, 116]) ++ [32, 40]).length = zs.length + 4 + 2 := (by rw [List.length_append, hlH]; rfl); obtain ⟨a5, M5, p5, rfl, hM5⟩ := hb5.shape2)) | (at_builtin; refine Go.Lib.wpList_append_own_string _ rfl _ _ 27 9 rfl W.heap.size 5 i0 Tryz.underlying27 Tryz.underlying9 hi hz0 hz1 hz2 (.slice a zs.length cap) _ _ rfl hA1.1 _ rfl (by rw [hl1]; show _ + 4 ≤ maxLen; unfold maxLen; omega) (by rw [hl1]; show _ + 4 ≤ _; omega) hA1.2.size ?_; intro v3 w3 o3 g3 _; have hb3 := hA1.put o3 (ts := [32, 105, 110, 116]) rfl rfl g3; have hbH : Bf w1 W w3 v3 (zs ++ [32, 105, 110, 116]) := (by rw [hw1'.out]; exact hb3); have hlH : (zs ++ [32, 105, 110, 116]).length = zs.length + 4 := (by simp); obtain ⟨aH, MH, pH, rfl, hMH⟩ := hbH.shape2))
  go_loopw [0, 7] (fun b i wr => ∃ j : Nat, i = .int .i64 (j : Int) ∧ j ≤ ts.length ∧ Bf w1 W wr b ((zs ++ [32, 105, 110, 116]) ++ [32, 40] ++ joinL (ts.take j))) (fun _ i _ => ts.length - (intOf i).toNat)
  case atStart => exact ⟨0, rfl, Nat.zero_le _, by simpa [joinL] using hb5⟩
  case round =>
    obtain ⟨j, rfl, hj, hbr⟩ := hrel
    have qr := HQ.out _ hbr.3
    obtain ⟨ar, Mr, pr, rfl, hMr⟩ := hbr.shape2
    by_cases hlt : j < ts.length
    · obtain ⟨_, g, off, cap', k, n', tk', tn', y0, y1, e1, _, hcl, hcall⟩ := HKs.out j hlt
      have HCL : Hid (∀ w', Later W w' → w'.cell? ⟨g, off + j * 6, none⟩ = some (.int .i64 k) ∧ w'.cell? ⟨g, off + j * 6 + 1, none⟩ = some (.int .i64 n') ∧ w'.cell? ⟨g, off + j * 6 + 2, none⟩ = some (.int .i64 tk') ∧ w'.cell? ⟨g, off + j * 6 + 3, none⟩ = some (.int .i64 tn') ∧ w'.cell? ⟨g, off + j * 6 + 4, none⟩ = some y0 ∧ w'.cell? ⟨g, off + j * 6 + 5, none⟩ = some y1) := hcl
      cases e1
      have hat := joinL_at ts j hlt
      have i1 : (j : Int) < (ts.length : Int) := by omega
      have hlr : ((zs ++ [32, 105, 110, 116]) ++ [32, 40] ++ joinL (ts.take j)).length = zs.length + 4 + 2 + (joinL (ts.take j)).length := by rw [List.length_append, hl5]
      clear hcl
      by_cases h0 : j = 0
      · rw [if_pos h0] at hat
        have h0' : Hid (j = 0) := h0
        obtain ⟨d0, d1, d2, d3, d4, d5⟩ := HCL.out _ hbr.2
        have i2 : ¬ (0 : Int) < (j : Int) := by omega
        clear h0
        go_wp2_with fail
        refine (hcall _ _ _ _ hbr (by rw [hlr]; omega)).mono ?_
        rintro e wn ⟨vn, rfl, hbn⟩
        have hbn' : Bf w1 W wn vn ((zs ++ [32, 105, 110, 116]) ++ [32, 40] ++ joinL (ts.take (j + 1))) := by rw [joinL_step ts j hlt, if_pos h0'.out]; simpa only [List.append_assoc, List.nil_append, List.append_nil] using hbn
        go_wp2_with fail
        go_roundw
        case rel => exact ⟨j + 1, by go_num, by omega, hbn'⟩
        case measure => simp [intOf]; omega
      · rw [if_neg h0] at hat
        have i2 : (0 : Int) < (j : Int) := by omega
        go_wp2_with (at_builtin; refine Go.Lib.wpList_append_own_string _ rfl _ _ 27 9 rfl W.heap.size 5 i0 Tryz.underlying27 Tryz.underlying9 hi hz0 hz1 hz2 (.slice ar Mr pr) _ _ rfl hbr.1 _ rfl (by rw [hlr]; show _ + 2 ≤ maxLen; unfold maxLen; omega) (by rw [hlr]; show _ + 2 ≤ _; omega) hbr.2.size ?_; intro v8 w8 o8 g8 _; have hb8 := hbr.put o8 (ts := [32, 44]) rfl rfl g8; have q8 := HQ.out _ hb8.3; obtain ⟨d0, d1, d2, d3, d4, d5⟩ := HCL.out _ hb8.2; have hl8 : ((zs ++ [32, 105, 110, 116]) ++ [32, 40] ++ joinL (ts.take j) ++ [32, 44]).length = zs.length + 4 + 2 + (joinL (ts.take j)).length + 2 := (by rw [List.length_append, hlr]; rfl); obtain ⟨a8, M8, p8, rfl, hM8⟩ := hb8.shape2)
        refine (hcall _ _ _ _ hb8 (by rw [hl8]; omega)).mono ?_
        rintro e wn ⟨vn, rfl, hbn⟩
        have hbn' : Bf w1 W wn vn ((zs ++ [32, 105, 110, 116]) ++ [32, 40] ++ joinL (ts.take (j + 1))) := by rw [joinL_step ts j hlt, if_neg h0]; simpa only [List.append_assoc, List.nil_append, List.append_nil] using hbn
        go_wp2_with fail
        go_roundw
        case rel => exact ⟨j + 1, by go_num, by omega, hbn'⟩
        case measure => simp [intOf]; omega
    · have hje : j = ts.length := by omega
      have i1 : ¬ (j : Int) < (ts.length : Int) := by omega
      have hte : ts.take j = ts := by rw [hje]; exact List.take_length
      have hlr : ((zs ++ [32, 105, 110, 116]) ++ [32, 40] ++ joinL (ts.take j)).length = zs.length + 4 + 2 + (joinL (ts.take j)).length := by rw [List.length_append, hl5]
      rw [hte] at hbr hlr hMr
      go_wp2_with (at_builtin; refine Go.Lib.wpList_append_own_string _ rfl _ _ 27 9 rfl W.heap.size 5 i0 Tryz.underlying27 Tryz.underlying9 hi hz0 hz1 hz2 (.slice ar Mr pr) _ _ rfl hbr.1 _ rfl (by rw [hlr]; show _ + 2 ≤ maxLen; unfold maxLen; omega) (by rw [hlr]; show _ + 2 ≤ _; omega) hbr.2.size ?_; intro v9 w9 o9 g9 _; have hb9 := hbr.put o9 (ts := [32, 41]) rfl rfl g9)
      rw [show (zs ++ [32, 105, 110, 116]) ++ [32, 40] ++ joinL ts ++ [32, 41] = zs ++ ([32, 105, 110, 116] ++ [32, 40] ++ joinL ts ++ [32, 41]) by simp only [List.append_assoc]] at hb9
      exact HF.out _ _ hb9
set_option maxRecDepth 20000 in
set_option maxHeartbeats 4000000 in
theorem say_13 (A W w : World) (v sv v0 v1 : Value) (zs : List Int) (n tk tn : Int) (h : Bf A W w v zs) (ts : List (List Int)) (hks : Kids W sv v1 ts) (hts : ts.length ≤ 1000) (hb : zs.length + 6 + 2 + (joinL ts).length + 2 ≤ 1000000) :
    Calls Tryz.prog 53 #[v, .agg #[.int .i64 13, .int .i64 n, .int .i64 tk, .int .i64 tn, v0, v1], sv] w (SayP A W (zs ++ ([32, 102, 108, 111, 97, 116] ++ [32, 40] ++ joinL ts ++ [32, 41]))) := by
  obtain ⟨i0, hi, hz0, hz1, hz2⟩ := info_parts Tryz.info5
  obtain ⟨a, cap, rfl⟩ := h.shape
  obtain ⟨a1, cap1, rfl, hks⟩ := hks
  obtain ⟨w1, hw1⟩ : ∃ w1, Hid (w1 = w.alloc (.cells #[.int .i64 13, .int .i64 n, .int .i64 tk, .int .i64 tn, v0, .slice a1 ts.length cap1] 107)) := ⟨_, rfl⟩
  have hA : Bf A W w1 (.slice a zs.length cap) zs := by rw [hw1.out]; exact h.alloc _
  have hbx : BxT w.heap.size w1 [.int .i64 13, .int .i64 n, .int .i64 tk, .int .i64 tn, v0, .slice a1 ts.length cap1] 107 := by rw [hw1.out]; exact BxT.new w _ _
  have HF : Hid (∀ v' w', Bf w1 W w' v' (zs ++ ([32, 102, 108, 111, 97, 116] ++ [32, 40] ++ joinL ts ++ [32, 41])) → SayP A W (zs ++ ([32, 102, 108, 111, 97, 116] ++ [32, 40] ++ joinL ts ++ [32, 41])) (.returned v') w') := fun v' w' h => ⟨v', rfl, h.back hA.3⟩
  have hA1 := hA.from
  clear hA h
  generalize hQ : SayP A W (zs ++ ([32, 102, 108, 111, 97, 116] ++ [32, 40] ++ joinL ts ++ [32, 41])) = Q
  rw [hQ] at HF
  have HQ : Hid (∀ w', K8 w1 w' → w'.cell? ⟨w.heap.size, 5, none⟩ = some (.slice a1 ts.length cap1)) := hbx.at (by decide) 5 _ rfl
  have HKs : Hid (∀ (j : Nat) (hj : j < ts.length), Kid W sv (.slice a1 ts.length cap1) ts.length j ts[j]) := hks
  have hl1 : zs.length = zs.length := rfl
  clear hbx hks
  have hw1' := hw1
  rw [hw1.out] at hA1
  go_enter Tryz.func53, Tryz.ntmps53
  go_wp2_with (first | ((have _g := hbH); (at_builtin; refine Go.Lib.wpList_append_own_string _ rfl _ _ 27 9 rfl W.heap.size 5 i0 Tryz.underlying27 Tryz.underlying9 hi hz0 hz1 hz2 (.slice aH MH pH) _ _ rfl hbH.1 _ rfl (by rw [hlH]; show _ + 2 ≤ maxLen; unfold maxLen; omega) (by rw [hlH]; show _ + 2 ≤ _; omega) hbH.2.size ?_; intro v5 w5 o5 g5 _; have hb5 := hbH.put o5 (ts := [32, 40]) rfl rfl g5; have hl5 : ((zs ++ [32, 102, 108, 111, 97, 116]) ++ [32, 40]).length = zs.length + 6 + 2 := (by rw [List.length_append, hlH]; rfl); obtain ⟨a5, M5, p5, rfl, hM5⟩ := hb5.shape2)) | (at_builtin; refine Go.Lib.wpList_append_own_string _ rfl _ _ 27 9 rfl W.heap.size 5 i0 Tryz.underlying27 Tryz.underlying9 hi hz0 hz1 hz2 (.slice a zs.length cap) _ _ rfl hA1.1 _ rfl (by rw [hl1]; show _ + 6 ≤ maxLen; unfold maxLen; omega) (by rw [hl1]; show _ + 6 ≤ _; omega) hA1.2.size ?_; intro v3 w3 o3 g3 _; have hb3 := hA1.put o3 (ts := [32, 102, 108, 111, 97, 116]) rfl rfl g3; have hbH : Bf w1 W w3 v3 (zs ++ [32, 102, 108, 111, 97, 116]) := (by rw [hw1'.out]; exact hb3); have hlH : (zs ++ [32, 102, 108, 111, 97, 116]).length = zs.length + 6 := (by simp); obtain ⟨aH, MH, pH, rfl, hMH⟩ := hbH.shape2))
  go_loopw [0, 7] (fun b i wr => ∃ j : Nat, i = .int .i64 (j : Int) ∧ j ≤ ts.length ∧ Bf w1 W wr b ((zs ++ [32, 102, 108, 111, 97, 116]) ++ [32, 40] ++ joinL (ts.take j))) (fun _ i _ => ts.length - (intOf i).toNat)
  case atStart => exact ⟨0, rfl, Nat.zero_le _, by simpa [joinL] using hb5⟩
  case round =>
    obtain ⟨j, rfl, hj, hbr⟩ := hrel
    have qr := HQ.out _ hbr.3
    obtain ⟨ar, Mr, pr, rfl, hMr⟩ := hbr.shape2
    by_cases hlt : j < ts.length
    · obtain ⟨_, g, off, cap', k, n', tk', tn', y0, y1, e1, _, hcl, hcall⟩ := HKs.out j hlt
      have HCL : Hid (∀ w', Later W w' → w'.cell? ⟨g, off + j * 6, none⟩ = some (.int .i64 k) ∧ w'.cell? ⟨g, off + j * 6 + 1, none⟩ = some (.int .i64 n') ∧ w'.cell? ⟨g, off + j * 6 + 2, none⟩ = some (.int .i64 tk') ∧ w'.cell? ⟨g, off + j * 6 + 3, none⟩ = some (.int .i64 tn') ∧ w'.cell? ⟨g, off + j * 6 + 4, none⟩ = some y0 ∧ w'.cell? ⟨g, off + j * 6 + 5, none⟩ = some y1) := hcl
      cases e1
      have hat := joinL_at ts j hlt
      have i1 : (j : Int) < (ts.length : Int) := by omega
      have hlr : ((zs ++ [32, 102, 108, 111, 97, 116]) ++ [32, 40] ++ joinL (ts.take j)).length = zs.length + 6 + 2 + (joinL (ts.take j)).length := by rw [List.length_append, hl5]
      clear hcl
      by_cases h0 : j = 0
      · rw [if_pos h0] at hat
        have h0' : Hid (j = 0) := h0
        obtain ⟨d0, d1, d2, d3, d4, d5⟩ := HCL.out _ hbr.2
        have i2 : ¬ (0 : Int) < (j : Int) := by omega
        clear h0
        go_wp2_with fail
        refine (hcall _ _ _ _ hbr (by rw [hlr]; omega)).mono ?_
        rintro e wn ⟨vn, rfl, hbn⟩
        have hbn' : Bf w1 W wn vn ((zs ++ [32, 102, 108, 111, 97, 116]) ++ [32, 40] ++ joinL (ts.take (j + 1))) := by rw [joinL_step ts j hlt, if_pos h0'.out]; simpa only [List.append_assoc, List.nil_append, List.append_nil] using hbn
        go_wp2_with fail
        go_roundw
        case rel => exact ⟨j + 1, by go_num, by omega, hbn'⟩
        case measure => simp [intOf]; omega
      · rw [if_neg h0] at hat
        have i2 : (0 : Int) < (j : Int) := by omega
        go_wp2_with (at_builtin; refine Go.Lib.wpList_append_own_string _ rfl _ _ 27 9 rfl W.heap.size 5 i0 Tryz.underlying27 Tryz.underlying9 hi hz0 hz1 hz2 (.slice ar Mr pr) _ _ rfl hbr.1 _ rfl (by rw [hlr]; show _ + 2 ≤ maxLen; unfold maxLen; omega) (by rw [hlr]; show _ + 2 ≤ _; omega) hbr.2.size ?_; intro v8 w8 o8 g8 _; have hb8 := hbr.put o8 (ts := [32, 44]) rfl rfl g8; have q8 := HQ.out _ hb8.3; obtain ⟨d0, d1, d2, d3, d4, d5⟩ := HCL.out _ hb8.2; have hl8 : ((zs ++ [32, 102, 108, 111, 97, 116]) ++ [32, 40] ++ joinL (ts.take j) ++ [32, 44]).length = zs.length + 6 + 2 + (joinL (ts.take j)).length + 2 := (by rw [List.length_append, hlr]; rfl); obtain ⟨a8, M8, p8, rfl, hM8⟩ := hb8.shape2)
        refine (hcall _ _ _ _ hb8 (by rw [hl8]; omega)).mono ?_
        rintro e wn ⟨vn, rfl, hbn⟩
        have hbn' : Bf w1 W wn vn ((zs ++ [32, 102, 108, 111, 97, 116]) ++ [32, 40] ++ joinL (ts.take (j + 1))) := by rw [joinL_step ts j hlt, if_neg h0]; simpa only [List.append_assoc, List.nil_append, List.append_nil] using hbn
        go_wp2_with fail
        go_roundw
        case rel => exact ⟨j + 1, by go_num, by omega, hbn'⟩
        case measure => simp [intOf]; omega
    · have hje : j = ts.length := by omega
      have i1 : ¬ (j : Int) < (ts.length : Int) := by omega
      have hte : ts.take j = ts := by rw [hje]; exact List.take_length
      have hlr : ((zs ++ [32, 102, 108, 111, 97, 116]) ++ [32, 40] ++ joinL (ts.take j)).length = zs.length + 6 + 2 + (joinL (ts.take j)).length := by rw [List.length_append, hl5]
      rw [hte] at hbr hlr hMr
      go_wp2_with (at_builtin; refine Go.Lib.wpList_append_own_string _ rfl _ _ 27 9 rfl W.heap.size 5 i0 Tryz.underlying27 Tryz.underlying9 hi hz0 hz1 hz2 (.slice ar Mr pr) _ _ rfl hbr.1 _ rfl (by rw [hlr]; show _ + 2 ≤ maxLen; unfold maxLen; omega) (by rw [hlr]; show _ + 2 ≤ _; omega) hbr.2.size ?_; intro v9 w9 o9 g9 _; have hb9 := hbr.put o9 (ts := [32, 41]) rfl rfl g9)
      rw [show (zs ++ [32, 102, 108, 111, 97, 116]) ++ [32, 40] ++ joinL ts ++ [32, 41] = zs ++ ([32, 102, 108, 111, 97, 116] ++ [32, 40] ++ joinL ts ++ [32, 41]) by simp only [List.append_assoc]] at hb9
      exact HF.out _ _ hb9
end Go.Proofs.YtbigjeejmacjcaaGreatDoor
