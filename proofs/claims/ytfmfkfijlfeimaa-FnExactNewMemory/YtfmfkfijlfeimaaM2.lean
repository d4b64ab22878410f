/- The laws' own functions on slices of ints and on memories: what is held, what is copied. -/
import Derived.Test.YtfmfkfijlfeimaaM1
namespace Go.Proofs.Ytfmfkfijlfeimaa
open Go.RowKit

set_option maxHeartbeats 400000 in
theorem held_any (base g cap n : Nat) (k0 : Int) (w : World) (hk0 : 0 ≤ k0) (hk1 : k0 + n ≤ 4611686018427387904) (h : w.ownsRow base 3 1 (.slice (some ⟨g, 0, none⟩) n cap) n (iotas k0 n)) :
    Calls Try.prog 11 #[.slice (some ⟨g, 0, none⟩) n cap, .int .i64 k0] w fun e w' => e = .returned (.int .i64 (k0 + n)) ∧ w' = w := by
  go_enter Try.func11, Try.ntmps11
  go_wp2
  go_loop [1, 5] (fun kk i => ∃ j : Nat, kk = .int .i64 (k0 + j) ∧ i = .int .i64 (j : Int) ∧ j ≤ n) (fun _ i => n - (intOf i).toNat)
  case atStart => exact ⟨0, by simp, rfl, Nat.zero_le _⟩
  case round =>
    obtain ⟨j, rfl, rfl, hj⟩ := hrel
    by_cases hlt : j < n
    · have hi : (j : Int) < (n : Int) := by omega
      have hcell : w.cell? ⟨g, j, none⟩ = some (.int .i64 (k0 + j)) := by rw [h.cellAt j (by omega), iotas_get _ _ _ hlt]
      have hb1 : 0 ≤ k0 + j := by omega
      have hb2 : k0 + j ≤ 4611686018427387904 := by omega
      clear h
      go_wp2
      go_round
      case rel => exact ⟨j + 1, by go_num, by go_num, by omega⟩
      case measure => simp [intOf]; omega
    · have hlt' : decide ((j : Int) < (n : Int)) = false := by simp; omega
      have hjn : j = n := by omega
      subst hjn
      go_wp2
      go_ret
      exact ⟨rfl, rfl⟩

theorem Try.info3 : (Try.prog.info? 3).map (fun i => (i.zero, i.size, i.bytes)) = some (some (.int .i64 0), 1, 8) := by kernel_rfl

theorem copy_step {zs : List Int} {j : Nat} (h : j < zs.length) : ((zs.take j).map (Value.int .i64) ++ List.replicate (zs.length - j) (Value.int .i64 0)).set j (.int .i64 (zs.getD j 0)) = (zs.take (j + 1)).map (Value.int .i64) ++ List.replicate (zs.length - (j + 1)) (.int .i64 0) := by
  have hl : ((zs.take j).map (Value.int .i64)).length = j := by simp; omega
  rw [List.set_append_right _ _ (by rw [hl]; omega), hl, Nat.sub_self, List.take_succ_eq_append_getElem h, List.map_append, List.append_assoc]
  congr 1
  rw [show zs.length - j = (zs.length - (j + 1)) + 1 by omega, List.replicate_succ]
  rw [List.getD_eq_getElem?_getD, List.getElem?_eq_getElem h]
  rfl

/-- What is owned can be read. -/
theorem own_rd {w : World} {base : Nat} {v : Value} {zs : List Int} (h : w.ownsRow base 3 1 v zs.length (zs.map (Value.int .i64))) : Rd w v zs := by
  rcases own_cases h with ⟨rfl, h0, _⟩ | ⟨g, cap, rfl, _, hg, hm⟩
  · refine ⟨none, 0, by rw [h0], by omega, fun j hj => by omega⟩
  · unfold maxLen at hm
    refine ⟨_, cap, rfl, by omega, fun j hj => ⟨g, 0, rfl, hg, ?_⟩⟩
    rw [Nat.zero_add, h.cellAt j (by omega), List.getElem?_map, List.getElem?_eq_getElem hj, List.getD_eq_getElem?_getD, List.getElem?_eq_getElem hj]
    rfl

theorem later2 (w : World) (o o' : Obj) : Later w ((w.alloc o).alloc o') := ((Below.refl _ _).alloc (Nat.le_refl _) _).alloc (by simp) _
theorem later1 (w : World) (o : Obj) : Later w (w.alloc o) := (Below.refl _ _).alloc (Nat.le_refl _) _
theorem later_drewN {w w' : World} (h : Later w w') (n : Nat) : Later w (w'.drewN n) := below_drewN h n
theorem eqints_b {v1 v2 : Value} {xs ys : List Int} {b : Bool} (hb : Hid (decide (xs = ys) = b)) {w : World} (h1 : Rd w v1 xs) (h2 : Rd w v2 ys) :
    Calls Try.prog 9 #[v1, v2] w fun e w' => e = .returned (.bool b) ∧ ∃ n, w' = w.drewN n := by
  have := eqints_any v1 v2 xs ys w h1 h2
  rw [hb.out] at this
  exact this

set_option maxHeartbeats 400000 in
theorem eqmem_any (v1 v2 : Value) (xs ys : List Int) (w : World) (h1 : Rd w v1 xs) (h2 : Rd w v2 ys) :
    Calls Try.prog 6 #[.agg #[v1], .agg #[v2]] w fun e w' => e = .returned (.bool (decide (xs = ys))) ∧ Later w w' := by
  obtain ⟨a, cap, rfl, hl, hc⟩ := id h1
  obtain ⟨a', cap', rfl, hl', hc'⟩ := id h2
  clear hl hc hl' hc'
  obtain ⟨b, hb⟩ : ∃ b, decide (xs = ys) = b := ⟨_, rfl⟩
  rw [hb]
  have HB : Hid (decide (xs = ys) = b) := hb
  clear hb
  cases b
  all_goals
    go_enter Try.func6, Try.ntmps6
    go_wp2_with (go_at_call 9; refine (eqints_b HB (h1.later (later2 _ _ _)) (h2.later (later2 _ _ _))).mono ?_; rintro e w' ⟨rfl, n, rfl⟩)
    go_ret
    exact ⟨rfl, later_drewN (later2 _ _ _) _⟩

set_option maxHeartbeats 400000 in
theorem markmem_any (base g cap n : Nat) (xs : List Value) (w : World) (hk1 : (n : Int) ≤ 4611686018427387000) (h : w.ownsRow base 3 1 (.slice (some ⟨g, 0, none⟩) n cap) n xs) :
    Calls Try.prog 7 #[.agg #[.slice (some ⟨g, 0, none⟩) n cap], .int .i64 1] w fun e w' => e = .returned (.int .i64 (1 + n)) ∧ w'.ownsRow base 3 1 (.slice (some ⟨g, 0, none⟩) n cap) n (iotas 1 n) ∧ w.grownBy w' (some g) := by
  have h2 := h.alloc (.cells #[.slice (some ⟨g, 0, none⟩) n cap] 24)
  go_enter Try.func7, Try.ntmps7
  go_wp2_with (go_at_call 10; refine (mark_any base g cap n xs 1 _ (by decide) (by omega) h2).mono ?_; rintro e w' ⟨rfl, ho, hg⟩)
  go_ret
  exact ⟨rfl, ho, grown_trans (World.grownBy_alloc _ _ _) hg⟩

set_option maxHeartbeats 400000 in
theorem heldmem_any (base g cap n : Nat) (w : World) (hk1 : (n : Int) ≤ 4611686018427387000) (h : w.ownsRow base 3 1 (.slice (some ⟨g, 0, none⟩) n cap) n (iotas 1 n)) :
    Calls Try.prog 8 #[.agg #[.slice (some ⟨g, 0, none⟩) n cap], .int .i64 1] w fun e w' => e = .returned (.int .i64 (1 + n)) ∧ Later w w' := by
  have h2 := h.alloc (.cells #[.slice (some ⟨g, 0, none⟩) n cap] 24)
  go_enter Try.func8, Try.ntmps8
  go_wp2_with (go_at_call 11; refine (held_any base g cap n 1 _ (by decide) (by omega) h2).mono ?_; rintro e w' ⟨rfl, rfl⟩)
  go_ret
  exact ⟨rfl, later1 _ _⟩

theorem later3 (w : World) (o o' o'' : Obj) : Later w (((w.alloc o).alloc o').alloc o'') := (((Below.refl _ _).alloc (Nat.le_refl _) _).alloc (by simp) _).alloc (by simp; omega) _
theorem own_mono {w : World} {b B : Nat} {v : Value} {n : Nat} {xs : List Value} (h : w.ownsRow B 3 1 v n xs) (hb : b ≤ B) : w.ownsRow b 3 1 v n xs := by
  refine ⟨h.1, ?_⟩
  rcases h.2 with h | ⟨g, cap, cur, h1, h2, h3⟩
  · exact .inl h
  · exact .inr ⟨g, cap, cur, h1, Nat.le_trans hb h2, h3⟩
theorem bcell {W w1 : World} (hb : Below W.heap.size W w1) : (∀ b o, b < W.heap.size → w1.cell? ⟨b, o, none⟩ = W.cell? ⟨b, o, none⟩) ∧ (∀ b o, b < W.heap.size → w1.frozen? ⟨b, o, none⟩ = W.frozen? ⟨b, o, none⟩) :=
  ⟨fun b o h => hb.cell (p := ⟨b, o, none⟩) h, fun b o h => hb.frozen (p := ⟨b, o, none⟩) h⟩

end Go.Proofs.Ytfmfkfijlfeimaa
