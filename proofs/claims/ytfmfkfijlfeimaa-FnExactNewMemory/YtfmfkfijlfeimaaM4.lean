/- The walk of the exact law of NewMemory. -/
import Derived.Test.YtfmfkfijlfeimaaM3
namespace Go.Proofs.Ytfmfkfijlfeimaa
open Go.RowKit

set_option maxHeartbeats 400000 in
theorem marknil_any (k : Int) (w : World) : Calls Try.prog 10 #[.slice none 0 0, .int .i64 k] w fun e w' => e = .returned (.int .i64 k) ∧ w' = w := by
  go_enter Try.func10, Try.ntmps10
  go_wp2
  go_loop [1, 5] (fun kk i => kk = .int .i64 k ∧ i = .int .i64 0) (fun _ _ => 0)
  case atStart => exact ⟨rfl, rfl⟩
  case round =>
    obtain ⟨rfl, rfl⟩ := hrel
    go_wp2
    go_ret
    exact ⟨rfl, rfl⟩
set_option maxHeartbeats 400000 in
theorem heldnil_any (k : Int) (w : World) : Calls Try.prog 11 #[.slice none 0 0, .int .i64 k] w fun e w' => e = .returned (.int .i64 k) ∧ w' = w := by
  go_enter Try.func11, Try.ntmps11
  go_wp2
  go_loop [1, 5] (fun kk i => kk = .int .i64 k ∧ i = .int .i64 0) (fun _ _ => 0)
  case atStart => exact ⟨rfl, rfl⟩
  case round =>
    obtain ⟨rfl, rfl⟩ := hrel
    go_wp2
    go_ret
    exact ⟨rfl, rfl⟩
set_option maxHeartbeats 400000 in
theorem held_nil (w : World) : Calls Try.prog 8 #[.agg #[.slice none 0 0], .int .i64 1] w fun e w' => e = .returned (.int .i64 1) ∧ Later w w' := by
  go_enter Try.func8, Try.ntmps8
  go_wp2_with (go_at_call 11; refine (heldnil_any _ _).mono ?_; rintro e w' ⟨rfl, rfl⟩)
  go_ret
  exact ⟨rfl, later1 _ _⟩
set_option maxHeartbeats 400000 in
theorem mark_nil (w : World) : Calls Try.prog 7 #[.agg #[.slice none 0 0], .int .i64 1] w fun e w' => e = .returned (.int .i64 1) ∧ Later w w' := by
  go_enter Try.func7, Try.ntmps7
  go_wp2_with (go_at_call 10; refine (marknil_any _ _).mono ?_; rintro e w' ⟨rfl, rfl⟩)
  go_ret
  exact ⟨rfl, later1 _ _⟩

/-- Marks of a memory that is owned. -/
theorem mark_v {base n : Nat} {v : Value} {xs : List Value} {w : World} (hn : n ≤ 1048576) (h : w.ownsRow base 3 1 v n xs) :
    Calls Try.prog 7 #[.agg #[v], .int .i64 1] w fun e w' => e = .returned (.int .i64 (1 + n)) ∧ w'.ownsRow base 3 1 v n (iotas 1 n) ∧ w.grownBy w' v.ownBlock := by
  rcases own_cases h with ⟨rfl, rfl, rfl⟩ | ⟨g, cap, rfl, _, _, _⟩
  · refine (mark_nil w).mono ?_
    rintro e w' ⟨rfl, hw⟩
    exact ⟨rfl, World.ownsRow_nil _ _ _ _, ⟨hw.os, hw.tape, hw.output, hw.size, fun k hk _ => hw.block k hk⟩⟩
  · exact markmem_any base g cap n xs w (by omega) h
theorem held_v {base n : Nat} {v : Value} {w : World} (hn : n ≤ 1048576) (h : w.ownsRow base 3 1 v n (iotas 1 n)) :
    Calls Try.prog 8 #[.agg #[v], .int .i64 1] w fun e w' => e = .returned (.int .i64 (1 + n)) ∧ Later w w' := by
  rcases own_cases h with ⟨rfl, rfl, _⟩ | ⟨g, cap, rfl, _, _, _⟩
  · exact held_nil w
  · exact heldmem_any base g cap n w (by omega) h

theorem eqmem_same {v1 v2 : Value} {b1 b2 : Nat} {zs : List Int} {w : World} (h1 : w.ownsRow b1 3 1 v1 zs.length (zs.map (Value.int .i64))) (h2 : w.ownsRow b2 3 1 v2 zs.length (zs.map (Value.int .i64))) :
    Calls Try.prog 6 #[.agg #[v1], .agg #[v2]] w fun e w' => e = .returned (.bool true) ∧ Later w w' := by
  have := eqmem_any v1 v2 zs zs w (own_rd h1) (own_rd h2)
  rwa [decide_eq_true rfl] at this

theorem own_lt {w : World} {base n : Nat} {v : Value} {xs : List Value} (h : w.ownsRow base 3 1 v n xs) : ∀ g, v.ownBlock = some g → base ≤ g ∧ g < w.heap.size := h.lt
theorem Box.grown' {w w' : World} {b : Nat} {v u : Value} (h : Box w b v) (hg : w.grownBy w' u.ownBlock) (hn : ∀ g, u.ownBlock = some g → b ≠ g) : Box w' b v := by
  cases hu : u.ownBlock with
  | none => rw [hu] at hg; exact h.later (grown_later hg)
  | some g => rw [hu] at hg; exact h.grown hg (hn g hu)
theorem own_grown {w w' : World} {b n : Nat} {v u : Value} {xs : List Value} (h : w.ownsRow b 3 1 v n xs) (hg : w.grownBy w' u.ownBlock) (hn : ∀ g, u.ownBlock = some g → v.ownBlock ≠ some g) : w'.ownsRow b 3 1 v n xs := by
  refine h.kept hg ?_
  cases hu : u.ownBlock with
  | none => cases hv : v.ownBlock <;> simp
  | some g =>
    have := hn g hu
    exact .inr this
theorem later_grown {w w' : World} {u : Value} (hg : w.grownBy w' u.ownBlock) {B : Nat} (hB : B ≤ w.heap.size) (hn : ∀ g, u.ownBlock = some g → B ≤ g) : Below B w w' :=
  ⟨hg.os, hg.tape, hg.output, hg.size, fun k hk => hg.block k (by omega) (by intro e; have := hn k e.symm; omega)⟩

theorem own_slice {w : World} {base n : Nat} {v : Value} {xs : List Value} (h : w.ownsRow base 3 1 v n xs) : ∃ a cap, v = .slice a n cap := by
  rcases own_cases h with ⟨rfl, rfl, _⟩ | ⟨g, cap, rfl, _⟩
  · exact ⟨_, _, rfl⟩
  · exact ⟨_, _, rfl⟩
theorem rep_map (n : Nat) : List.replicate n (Value.int .i64 0) = (List.replicate n (0 : Int)).map (Value.int .i64) := by simp

set_option maxHeartbeats 1000000 in
theorem lawnew_any (hI : NewC 5) (n : Int) (w : World) : Calls Try.prog 3 #[.int .i64 n] w fun e w' => e = .returned (.bool true) ∧ Later w w' := by
  obtain ⟨m, hm, hml⟩ : ∃ m, lenN n = m ∧ m ≤ 1048576 := ⟨_, rfl, by rcases okN_cases n with ⟨_, _, e⟩ | ⟨m, _, h, _, e⟩ <;> rw [e] <;> omega⟩
  have hS := snew_any n
  have hJ := hI n
  rw [hm] at hS hJ
  clear hI
  go_enter Try.func3, Try.ntmps3
  go_wp2_with fail
  refine (hS w).mono ?_
  rintro e w1 ⟨v1, rfl, o1, l1⟩
  obtain ⟨a1, p1, rfl⟩ := own_slice o1
  go_wp2_with fail
  -- the second call: the program's
  have B3 := Box.new w1 (.slice a1 m p1) 24
  have q1 := later_own o1 (later1 w1 (.cells #[.slice a1 m p1] 24))
  have L1 : Later w (w1.alloc (.cells #[.slice a1 m p1] 24)) := l1.trans (later1 _ _)
  refine (hJ _).mono ?_
  rintro e w2 ⟨v2, rfl, o2, l2⟩
  obtain ⟨a2, p2, rfl⟩ := own_slice o2
  replace B3 := B3.later l2
  replace q1 := later_own q1 l2
  replace L1 := L1.trans l2
  have lt1 := own_lt o1
  have lt2 := own_lt o2
  have hsz : w1.heap.size < w2.heap.size := B3.lt
  have c3 := B3.cell
  have l1w := l1.size
  clear o1 l1
  go_wp2_with fail
  -- both memories are held against each other
  have B5 := Box.new w2 (.slice a2 m p2) 24
  have W2 : Later w2 (w2.alloc (.cells #[.slice a2 m p2] 24)) := later1 _ _
  replace B3 := B3.later W2
  replace q1 := later_own q1 W2
  have q2 := later_own o2 W2
  replace L1 := L1.trans W2
  have hb35 : w1.heap.size < w2.heap.size := hsz
  have lt2' : ∀ g, (Value.slice a2 m p2).ownBlock = some g → w1.heap.size < g ∧ g < w2.heap.size := fun g hg => by have := lt2 g hg; simp at this; omega
  have lt1' : ∀ g, (Value.slice a1 m p1).ownBlock = some g → g < w1.heap.size := fun g hg => (lt1 g hg).2
  have hww : w.heap.size ≤ w1.heap.size := l1w
  clear o2 l2 lt1 lt2 hsz c3
  generalize w1.heap.size = b3 at *
  generalize w2.heap.size = b5 at *
  rw [rep_map] at q1 q2
  refine (eqmem_same (zs := List.replicate m 0) (by simpa using q2) (by simpa using q1)).mono ?_
  rintro e w3 ⟨rfl, l3⟩
  replace B3 := B3.later l3
  replace B5 := B5.later l3
  replace q1 := later_own q1 l3
  replace q2 := later_own q2 l3
  replace L1 := L1.trans l3
  have c3 := B3.cell
  have c5 := B5.cell
  clear l3 W2
  go_wp2_with fail
  -- the answer is marked
  refine (mark_v hml q2).mono ?_
  rintro e w4 ⟨rfl, q2', g4⟩
  replace B3 := B3.grown' g4 (fun g hg => by have := lt2' g hg; omega)
  replace B5 := B5.grown' g4 (fun g hg => by have := lt2' g hg; omega)
  replace q1 := own_grown q1 g4 (fun g hg e => by have := lt2' g hg; have := lt1' g e; omega)
  replace L1 : Later w w4 := Below.trans L1 (later_grown g4 L1.size (fun g hg => by have := lt2' g hg; omega))
  replace c3 := B3.cell
  replace c5 := B5.cell
  clear q2 g4
  go_wp2_with fail
  refine (held_v hml q2').mono ?_
  rintro e w5 ⟨rfl, l5⟩
  replace B3 := B3.later l5
  replace B5 := B5.later l5
  replace q1 := later_own q1 l5
  replace q2' := later_own q2' l5
  replace L1 := L1.trans l5
  replace c3 := B3.cell
  replace c5 := B5.cell
  clear l5
  go_wp2_with fail
  -- the program once more
  refine (hJ w5).mono ?_
  rintro e w6 ⟨v3, rfl, o3, l6⟩
  obtain ⟨a3, p3, rfl⟩ := own_slice o3
  replace B3 := B3.later l6
  replace B5 := B5.later l6
  replace q1 := later_own q1 l6
  replace q2' := later_own q2' l6
  replace L1 := L1.trans l6
  replace c3 := B3.cell
  replace c5 := B5.cell
  have t3 := B3.lt
  have t5 := B5.lt
  clear l6
  go_wp2_with fail
  have W6 : Later w6 (w6.alloc (.cells #[.slice a3 m p3] 24)) := later1 _ _
  replace B5 := B5.later W6
  replace q1 := later_own q1 W6
  replace q2' := later_own q2' W6
  replace L1 := L1.trans W6
  have q3 := later_own o3 W6
  rw [rep_map] at q3
  refine (eqmem_same (zs := List.replicate m 0) (by simpa using q3) (by simpa using q1)).mono ?_
  rintro e w7 ⟨rfl, l7⟩
  replace B5 := B5.later l7
  replace q2' := later_own q2' l7
  replace L1 := L1.trans l7
  replace c5 := B5.cell
  clear l7 W6 q3 o3 q1 c3 B3 t3 t5
  go_wp2_with fail
  refine (held_v hml q2').mono ?_
  rintro e w8 ⟨rfl, l8⟩
  go_wp2_with fail
  go_ret
  exact ⟨rfl, L1.trans l8⟩

end Go.Proofs.Ytfmfkfijlfeimaa
