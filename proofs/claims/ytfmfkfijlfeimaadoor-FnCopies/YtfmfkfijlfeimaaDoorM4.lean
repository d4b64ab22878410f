/- The walk of the exact law of NewMemory. -/
import Derived.Test.YtfmfkfijlfeimaaDoorM3
namespace Go.Proofs.YtfmfkfijlfeimaaDoor
open Go.RowKit

set_option maxHeartbeats 400000 in
theorem marknil_any (k : Int) (w : World) : Calls Tryd.prog 35 #[.slice none 0 0, .int .i64 k] w fun e w' => e = .returned (.int .i64 k) ∧ w' = w := by
  go_enter Tryd.func35, Tryd.ntmps35
  go_wp2
  go_loop [1, 5] (fun kk i => kk = .int .i64 k ∧ i = .int .i64 0) (fun _ _ => 0)
  case atStart => exact ⟨rfl, rfl⟩
  case round =>
    obtain ⟨rfl, rfl⟩ := hrel
    go_wp2
    go_ret
    exact ⟨rfl, rfl⟩
set_option maxHeartbeats 400000 in
theorem heldnil_any (k : Int) (w : World) : Calls Tryd.prog 36 #[.slice none 0 0, .int .i64 k] w fun e w' => e = .returned (.int .i64 k) ∧ w' = w := by
  go_enter Tryd.func36, Tryd.ntmps36
  go_wp2
  go_loop [1, 5] (fun kk i => kk = .int .i64 k ∧ i = .int .i64 0) (fun _ _ => 0)
  case atStart => exact ⟨rfl, rfl⟩
  case round =>
    obtain ⟨rfl, rfl⟩ := hrel
    go_wp2
    go_ret
    exact ⟨rfl, rfl⟩
set_option maxHeartbeats 400000 in
theorem held_nil (w : World) : Calls Tryd.prog 20 #[.agg #[.slice none 0 0], .int .i64 1] w fun e w' => e = .returned (.int .i64 1) ∧ Later w w' := by
  go_enter Tryd.func20, Tryd.ntmps20
  go_wp2_with (go_at_call 36; refine (heldnil_any _ _).mono ?_; rintro e w' ⟨rfl, rfl⟩)
  go_ret
  exact ⟨rfl, later1 _ _⟩
set_option maxHeartbeats 400000 in
theorem mark_nil (w : World) : Calls Tryd.prog 19 #[.agg #[.slice none 0 0], .int .i64 1] w fun e w' => e = .returned (.int .i64 1) ∧ Later w w' := by
  go_enter Tryd.func19, Tryd.ntmps19
  go_wp2_with (go_at_call 35; refine (marknil_any _ _).mono ?_; rintro e w' ⟨rfl, rfl⟩)
  go_ret
  exact ⟨rfl, later1 _ _⟩

/-- Marks of a memory that is owned. -/
theorem mark_v {base n : Nat} {v : Value} {xs : List Value} {w : World} (hn : n ≤ 1048576) (h : w.ownsRow base 3 1 v n xs) :
    Calls Tryd.prog 19 #[.agg #[v], .int .i64 1] w fun e w' => e = .returned (.int .i64 (1 + n)) ∧ w'.ownsRow base 3 1 v n (iotas 1 n) ∧ w.grownBy w' v.ownBlock := by
  rcases own_cases h with ⟨rfl, rfl, rfl⟩ | ⟨g, cap, rfl, _, _, _⟩
  · refine (mark_nil w).mono ?_
    rintro e w' ⟨rfl, hw⟩
    exact ⟨rfl, World.ownsRow_nil _ _ _ _, ⟨hw.os, hw.tape, hw.output, hw.size, fun k hk _ => hw.block k hk⟩⟩
  · exact markmem_any base g cap n xs w (by omega) h
theorem held_v {base n : Nat} {v : Value} {w : World} (hn : n ≤ 1048576) (h : w.ownsRow base 3 1 v n (iotas 1 n)) :
    Calls Tryd.prog 20 #[.agg #[v], .int .i64 1] w fun e w' => e = .returned (.int .i64 (1 + n)) ∧ Later w w' := by
  rcases own_cases h with ⟨rfl, rfl, _⟩ | ⟨g, cap, rfl, _, _, _⟩
  · exact held_nil w
  · exact heldmem_any base g cap n w (by omega) h

theorem eqmem_same {v1 v2 : Value} {b1 b2 : Nat} {zs : List Int} {w : World} (h1 : w.ownsRow b1 3 1 v1 zs.length (zs.map (Value.int .i64))) (h2 : w.ownsRow b2 3 1 v2 zs.length (zs.map (Value.int .i64))) :
    Calls Tryd.prog 17 #[.agg #[v1], .agg #[v2]] w fun e w' => e = .returned (.bool true) ∧ Later w w' := by
  have := eqmem_any v1 v2 zs zs w (own_rd h1) (own_rd h2)
  rwa [decide_eq_true rfl] at this

theorem own_lt {w : World} {base n : Nat} {v : Value} {xs : List Value} (h : w.ownsRow base 3 1 v n xs) : ∀ g, v.ownBlock = some g → base ≤ g ∧ g < w.heap.size := h.lt
theorem Box.grown' {w w' : World} {b : Nat} {v u : Value} (h : Box w b v) (hg : w.grownBy w' u.ownBlock) (hn : ∀ g, u.ownBlock = some g → b ≠ g) : Box w' b v := by
  cases hu : u.ownBlock with
  | none => rw [hu] at hg; exact h.later (grown_later hg)
  | some g => rw [hu] at hg; exact h.grown hg (hn g hu)
theorem own_grown {w w' : World} {b n : Nat} {v u : Value} {xs : List Value} (h : w.ownsRow b 3 1 v n xs) (hg : w.grownBy w' u.ownBlock) (hn : ∀ g, u.ownBlock = some g → v.ownBlock ≠ some g) : w'.ownsRow b 3 1 v n xs := by
  refine h.kept hg ?_
  cases hu : u.ownBlock with
  | none => cases hv : v.ownBlock <;> simp
  | some g =>
    have := hn g hu
    exact .inr this
theorem later_grown {w w' : World} {u : Value} (hg : w.grownBy w' u.ownBlock) {B : Nat} (hB : B ≤ w.heap.size) (hn : ∀ g, u.ownBlock = some g → B ≤ g) : Below B w w' :=
  ⟨hg.os, hg.tape, hg.output, hg.size, fun k hk => hg.block k (by omega) (by intro e; have := hn k e.symm; omega)⟩

theorem own_slice {w : World} {base n : Nat} {v : Value} {xs : List Value} (h : w.ownsRow base 3 1 v n xs) : ∃ a cap, v = .slice a n cap := by
  rcases own_cases h with ⟨rfl, rfl, _⟩ | ⟨g, cap, rfl, _⟩
  · exact ⟨_, _, rfl⟩
  · exact ⟨_, _, rfl⟩
theorem rep_map (n : Nat) : List.replicate n (Value.int .i64 0) = (List.replicate n (0 : Int)).map (Value.int .i64) := by simp

end Go.Proofs.YtfmfkfijlfeimaaDoor
