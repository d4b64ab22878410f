/- The laws' own functions on slices of ints and on memories: what is held, what is copied. -/
import Derived.Test.YtfmfkfijlfeimaaDoorM1
namespace Go.Proofs.YtfmfkfijlfeimaaDoor
open Go.RowKit

set_option maxHeartbeats 400000 in
theorem held_any (base g cap n : Nat) (k0 : Int) (w : World) (hk0 : 0 ≤ k0) (hk1 : k0 + n ≤ 4611686018427387904) (h : w.ownsRow base 3 1 (.slice (some ⟨g, 0, none⟩) n cap) n (iotas k0 n)) :
    Calls Tryd.prog 36 #[.slice (some ⟨g, 0, none⟩) n cap, .int .i64 k0] w fun e w' => e = .returned (.int .i64 (k0 + n)) ∧ w' = w := by
  go_enter Tryd.func36, Tryd.ntmps36
  go_wp2
  go_loop [1, 5] (fun kk i => ∃ j : Nat, kk = .int .i64 (k0 + j) ∧ i = .int .i64 (j : Int) ∧ j ≤ n) (fun _ i => n - (intOf i).toNat)
  case atStart => exact ⟨0, by simp, rfl, Nat.zero_le _⟩
  case round =>
    obtain ⟨j, rfl, rfl, hj⟩ := hrel
    by_cases hlt : j < n
    · have hi : (j : Int) < (n : Int) := by omega
      have hcell : w.cell? ⟨g, j, none⟩ = some (.int .i64 (k0 + j)) := by rw [h.cellAt j (by omega), iotas_get _ _ _ hlt]
      have hb1 : 0 ≤ k0 + j := by omega
      have hb2 : k0 + j ≤ 4611686018427387904 := by omega
      clear h
      go_wp2
      go_round
      case rel => exact ⟨j + 1, by go_num, by go_num, by omega⟩
      case measure => simp [intOf]; omega
    · have hlt' : decide ((j : Int) < (n : Int)) = false := by simp; omega
      have hjn : j = n := by omega
      subst hjn
      go_wp2
      go_ret
      exact ⟨rfl, rfl⟩

theorem Tryd.info3 : (Tryd.prog.info? 3).map (fun i => (i.zero, i.size, i.bytes)) = some (some (.int .i64 0), 1, 8) := by kernel_rfl

theorem copy_step {zs : List Int} {j : Nat} (h : j < zs.length) : ((zs.take j).map (Value.int .i64) ++ List.replicate (zs.length - j) (Value.int .i64 0)).set j (.int .i64 (zs.getD j 0)) = (zs.take (j + 1)).map (Value.int .i64) ++ List.replicate (zs.length - (j + 1)) (.int .i64 0) := by
  have hl : ((zs.take j).map (Value.int .i64)).length = j := by simp; omega
  rw [List.set_append_right _ _ (by rw [hl]; omega), hl, Nat.sub_self, List.take_succ_eq_append_getElem h, List.map_append, List.append_assoc]
  congr 1
  rw [show zs.length - j = (zs.length - (j + 1)) + 1 by omega, List.replicate_succ]
  rw [List.getD_eq_getElem?_getD, List.getElem?_eq_getElem h]
  rfl

set_option maxHeartbeats 400000 in
theorem toints_any (v : Value) (zs : List Int) (w : World) (hs : zs.length ≤ 1048576) (h : Rd w v zs) :
    Calls Tryd.prog 32 #[v] w fun e w' => ∃ g, e = .returned (.slice (some ⟨g, 0, none⟩) zs.length zs.length) ∧ w'.ownsRow w.heap.size 3 1 (.slice (some ⟨g, 0, none⟩) zs.length zs.length) zs.length (zs.map (Value.int .i64)) ∧ Later w w' := by
  obtain ⟨a, cap, rfl, hl, hc⟩ := h
  obtain ⟨i0, hi, hz0, hz1, hz2⟩ := info_parts Tryd.info3
  go_enter Tryd.func32, Tryd.ntmps32
  go_wp2_with (at_make; refine wpList_make_full _ rfl _ _ 23 rfl w.heap.size 3 i0 (.int .i64 0) 1 Tryd.underlying23 hi hz0 hz1 .i64 .i64 _ _ zs.length rfl rfl rfl rfl (by rw [hz2]; omega) (by unfold maxLen; omega) (Nat.le_refl _) ?_; intro w1 hown hgr)
  have hown0 : w1.ownsRow w.heap.size 3 1 (.slice (some ⟨w.heap.size, 0, none⟩) zs.length zs.length) zs.length (List.replicate zs.length (Value.int .i64 0)) := by
    have e : (madeCells (Value.int .i64 0).cells (zs.length * 1)).toList = List.replicate zs.length (Value.int .i64 0) := by rw [Nat.mul_one]; exact toList_madeCells_one _ _
    rw [← e]; exact hown
  have hlat1 : Later w w1 := (Below.refl _ _).grown hgr (Nat.le_refl _) (fun k h => by cases h)
  clear hown hgr hi hz0 hz1 hz2
  go_loopw [4] (fun i wr => ∃ j : Nat, i = .int .i64 (j : Int) ∧ j ≤ zs.length ∧ wr.ownsRow w.heap.size 3 1 (.slice (some ⟨w.heap.size, 0, none⟩) zs.length zs.length) zs.length ((zs.take j).map (Value.int .i64) ++ List.replicate (zs.length - j) (Value.int .i64 0)) ∧ Later w wr) (fun i _ => zs.length - (intOf i).toNat)
  case atStart => exact ⟨0, rfl, Nat.zero_le _, by simpa using hown0, hlat1⟩
  case round =>
    obtain ⟨j, rfl, hj, hown, hlat⟩ := hrel
    by_cases hlt : j < zs.length
    · obtain ⟨g, off, rfl, hg, hv⟩ := hc j hlt
      have hi : (j : Int) < (zs.length : Int) := by omega
      have hvr : wr.cell? ⟨g, off + j, none⟩ = some (.int .i64 (zs.getD j 0)) := by rw [Below.cell hlat (p := ⟨g, off + j, none⟩) hg]; exact hv
      have hst := hown.stored j (.int .i64 (zs.getD j 0))
      rw [copy_step hlt] at hst
      obtain ⟨hs1, hs2⟩ := hst
      have hcell : wr.cell? ⟨w.heap.size, j, none⟩ = some (.int .i64 0) := by
        rw [hown.cellAt j (by omega), List.getElem?_append_right (by rw [List.length_map, List.length_take]; omega), List.length_map, List.length_take, Nat.min_eq_left (by omega), Nat.sub_self, List.getElem?_replicate, if_pos (by omega)]
      have hfr := hown.frozenAt j
      generalize zs.getD j 0 = z at *
      have hlat2 : Later w (wr.setCell ⟨w.heap.size, j, none⟩ (.int .i64 z)) := Below.setCell hlat (Nat.le_refl _) _
      clear hown hown0 hv hc hs2
      go_wp2
      go_roundw
      case rel => exact ⟨j + 1, by go_num, by omega, hs1, hlat2⟩
      case measure => simp [intOf]; omega
    · have hlt' : decide ((j : Int) < (zs.length : Int)) = false := by simp; omega
      go_wp2
      go_ret
      exact ⟨_, rfl, by rw [List.take_of_length_le (by omega), Nat.sub_eq_zero_of_le (by omega), List.replicate_zero, List.append_nil] at hown; exact hown, hlat⟩

/-- What is owned can be read. -/
theorem own_rd {w : World} {base : Nat} {v : Value} {zs : List Int} (h : w.ownsRow base 3 1 v zs.length (zs.map (Value.int .i64))) : Rd w v zs := by
  rcases own_cases h with ⟨rfl, h0, _⟩ | ⟨g, cap, rfl, _, hg, hm⟩
  · refine ⟨none, 0, by rw [h0], by omega, fun j hj => by omega⟩
  · unfold maxLen at hm
    refine ⟨_, cap, rfl, by omega, fun j hj => ⟨g, 0, rfl, hg, ?_⟩⟩
    rw [Nat.zero_add, h.cellAt j (by omega), List.getElem?_map, List.getElem?_eq_getElem hj, List.getD_eq_getElem?_getD, List.getElem?_eq_getElem hj]
    rfl

theorem later2 (w : World) (o o' : Obj) : Later w ((w.alloc o).alloc o') := ((Below.refl _ _).alloc (Nat.le_refl _) _).alloc (by simp) _
theorem later1 (w : World) (o : Obj) : Later w (w.alloc o) := (Below.refl _ _).alloc (Nat.le_refl _) _
theorem later_drewN {w w' : World} (h : Later w w') (n : Nat) : Later w (w'.drewN n) := below_drewN h n
theorem eqints_b {v1 v2 : Value} {xs ys : List Int} {b : Bool} (hb : Hid (decide (xs = ys) = b)) {w : World} (h1 : Rd w v1 xs) (h2 : Rd w v2 ys) :
    Calls Tryd.prog 33 #[v1, v2] w fun e w' => e = .returned (.bool b) ∧ ∃ n, w' = w.drewN n := by
  have := eqints_any v1 v2 xs ys w h1 h2
  rw [hb.out] at this
  exact this

set_option maxHeartbeats 400000 in
theorem eqmem_any (v1 v2 : Value) (xs ys : List Int) (w : World) (h1 : Rd w v1 xs) (h2 : Rd w v2 ys) :
    Calls Tryd.prog 17 #[.agg #[v1], .agg #[v2]] w fun e w' => e = .returned (.bool (decide (xs = ys))) ∧ Later w w' := by
  obtain ⟨a, cap, rfl, hl, hc⟩ := id h1
  obtain ⟨a', cap', rfl, hl', hc'⟩ := id h2
  clear hl hc hl' hc'
  obtain ⟨b, hb⟩ : ∃ b, decide (xs = ys) = b := ⟨_, rfl⟩
  rw [hb]
  have HB : Hid (decide (xs = ys) = b) := hb
  clear hb
  cases b
  all_goals
    go_enter Tryd.func17, Tryd.ntmps17
    go_wp2_with (go_at_call 33; refine (eqints_b HB (h1.later (later2 _ _ _)) (h2.later (later2 _ _ _))).mono ?_; rintro e w' ⟨rfl, n, rfl⟩)
    go_ret
    exact ⟨rfl, later_drewN (later2 _ _ _) _⟩

set_option maxHeartbeats 400000 in
theorem markmem_any (base g cap n : Nat) (xs : List Value) (w : World) (hk1 : (n : Int) ≤ 4611686018427387000) (h : w.ownsRow base 3 1 (.slice (some ⟨g, 0, none⟩) n cap) n xs) :
    Calls Tryd.prog 19 #[.agg #[.slice (some ⟨g, 0, none⟩) n cap], .int .i64 1] w fun e w' => e = .returned (.int .i64 (1 + n)) ∧ w'.ownsRow base 3 1 (.slice (some ⟨g, 0, none⟩) n cap) n (iotas 1 n) ∧ w.grownBy w' (some g) := by
  have h2 := h.alloc (.cells #[.slice (some ⟨g, 0, none⟩) n cap] 25)
  go_enter Tryd.func19, Tryd.ntmps19
  go_wp2_with (go_at_call 35; refine (mark_any base g cap n xs 1 _ (by decide) (by omega) h2).mono ?_; rintro e w' ⟨rfl, ho, hg⟩)
  go_ret
  exact ⟨rfl, ho, grown_trans (World.grownBy_alloc _ _ _) hg⟩

set_option maxHeartbeats 400000 in
theorem heldmem_any (base g cap n : Nat) (w : World) (hk1 : (n : Int) ≤ 4611686018427387000) (h : w.ownsRow base 3 1 (.slice (some ⟨g, 0, none⟩) n cap) n (iotas 1 n)) :
    Calls Tryd.prog 20 #[.agg #[.slice (some ⟨g, 0, none⟩) n cap], .int .i64 1] w fun e w' => e = .returned (.int .i64 (1 + n)) ∧ Later w w' := by
  have h2 := h.alloc (.cells #[.slice (some ⟨g, 0, none⟩) n cap] 25)
  go_enter Tryd.func20, Tryd.ntmps20
  go_wp2_with (go_at_call 36; refine (held_any base g cap n 1 _ (by decide) (by omega) h2).mono ?_; rintro e w' ⟨rfl, rfl⟩)
  go_ret
  exact ⟨rfl, later1 _ _⟩

theorem later3 (w : World) (o o' o'' : Obj) : Later w (((w.alloc o).alloc o').alloc o'') := (((Below.refl _ _).alloc (Nat.le_refl _) _).alloc (by simp) _).alloc (by simp; omega) _
theorem own_mono {w : World} {b B : Nat} {v : Value} {n : Nat} {xs : List Value} (h : w.ownsRow B 3 1 v n xs) (hb : b ≤ B) : w.ownsRow b 3 1 v n xs := by
  refine ⟨h.1, ?_⟩
  rcases h.2 with h | ⟨g, cap, cur, h1, h2, h3⟩
  · exact .inl h
  · exact .inr ⟨g, cap, cur, h1, Nat.le_trans hb h2, h3⟩
theorem bcell {W w1 : World} (hb : Below W.heap.size W w1) : (∀ b o, b < W.heap.size → w1.cell? ⟨b, o, none⟩ = W.cell? ⟨b, o, none⟩) ∧ (∀ b o, b < W.heap.size → w1.frozen? ⟨b, o, none⟩ = W.frozen? ⟨b, o, none⟩) :=
  ⟨fun b o h => hb.cell (p := ⟨b, o, none⟩) h, fun b o h => hb.frozen (p := ⟨b, o, none⟩) h⟩

set_option maxHeartbeats 400000 in
theorem tomem_any (v : Value) (zs : List Int) (w : World) (hs : zs.length ≤ 1048576) (h : Rd w v zs) :
    Calls Tryd.prog 16 #[.agg #[v]] w fun e w' => ∃ g, e = .returned (.agg #[.slice (some ⟨g, 0, none⟩) zs.length zs.length]) ∧ w'.ownsRow w.heap.size 3 1 (.slice (some ⟨g, 0, none⟩) zs.length zs.length) zs.length (zs.map (Value.int .i64)) ∧ Later w w' := by
  obtain ⟨a, cap, rfl, hl, hc⟩ := id h
  clear hl hc
  go_enter Tryd.func16, Tryd.ntmps16
  go_wp2_with (go_at_call 32; refine (toints_any _ zs _ hs (h.later (later3 _ _ _ _))).mono ?_; rintro e w1 ⟨g, rfl, ho, hw⟩; obtain ⟨hc1, hf1⟩ := bcell hw; have hz : w.heap.size + 2 < w1.heap.size := by have := hw.size; simp at this; omega)
  refine bodyPost_ret (v := .agg #[.slice (some ⟨g, 0, none⟩) zs.length zs.length]) (by simp [results, Tryd.results16, go_sem, hc1]) rfl ⟨g, rfl, ?_, ?_⟩
  · refine own_mono (B := (((w.alloc (.cells #[.slice a zs.length cap] 37)).alloc (.cells #[.slice none 0 0] 25)).alloc (.cells #[.slice none 0 0] 25)).heap.size) ?_ (by simp; omega)
    exact ownsRow_setCell_below (ownsRow_setCell_below ho (by simp) _) (by simp) _
  · exact ((Below.trans (later3 _ _ _ _) (Below.mono hw (by simp; omega))).setCell (by simp; omega) _).setCell (by simp) _

end Go.Proofs.YtfmfkfijlfeimaaDoor
