/- NewMemory: the model's, and the walk of its exact law. -/
import Derived.Test.YtfmfkfijlfeimaaM2
namespace Go.Proofs.Ytfmfkfijlfeimaa
open Go.RowKit

theorem later_own {w w' : World} {b : Nat} {v : Value} {n : Nat} {xs : List Value} (h : w.ownsRow b 3 1 v n xs) (hb : Later w w') : w'.ownsRow b 3 1 v n xs :=
  h.kept (row := none) ⟨hb.os, hb.tape, hb.output, hb.size, fun k hk _ => hb.block k hk⟩ (by cases h : v.ownBlock <;> simp)
/-- A variable's cell. -/
structure Box (w : World) (b : Nat) (v : Value) : Prop where
  cell : w.cell? ⟨b, 0, none⟩ = some v
  lt : b < w.heap.size
theorem Box.later {w w' : World} {b : Nat} {v : Value} (h : Box w b v) (hb : Later w w') : Box w' b v :=
  ⟨by rw [Below.cell hb (p := ⟨b, 0, none⟩) h.lt]; exact h.cell, Nat.lt_of_lt_of_le h.lt hb.size⟩
theorem Box.grown {w w' : World} {b g : Nat} {v : Value} (h : Box w b v) (hg : w.grownBy w' (some g)) (hn : b ≠ g) : Box w' b v :=
  ⟨hg.cell h.cell (by simpa using hn), Nat.lt_of_lt_of_le h.lt hg.size⟩
theorem Box.new (w : World) (v : Value) (t : TypeId) : Box (w.alloc (.cells #[v] t)) w.heap.size v := ⟨by simp, by simp⟩

theorem grown_later {w w' : World} (h : w.grownBy w' none) : Later w w' := ⟨h.os, h.tape, h.output, h.size, fun k hk => h.block k hk (by simp)⟩
def okN (n : Int) : Bool := decide (0 ≤ n) && decide (n ≤ 20000)
def lenN (n : Int) : Nat := if okN n then n.toNat else 0
/-- What NewMemory answers. -/
def NewC (f : Nat) : Prop := ∀ (n : Int) (w : World), Calls Try.prog f #[.int .i64 n] w fun e w' =>
  ∃ v, e = .returned (.tuple #[.agg #[v], .bool (okN n)]) ∧ w'.ownsRow w.heap.size 3 1 v (lenN n) (List.replicate (lenN n) (Value.int .i64 0)) ∧ Later w w'

theorem build0 (w : World) : (Instr.build 24 #[]).run Try.prog w = .ok (.agg #[.slice none 0 0]) w := run_build w 24 _ _ (by kernel_rfl)
theorem build1 (a : Option Addr) (n m : Nat) (w : World) : (Instr.build 24 #[(0, .slice a n m)]).run Try.prog w = .ok (.agg #[.slice a n m]) w := run_build w 24 _ _ (by kernel_rfl)

theorem snew_no (n : Int) (w : World) (h : n < 0 ∨ 20000 < n) : Calls Try.prog 4 #[.int .i64 n] w fun e w' =>
    e = .returned (.tuple #[.agg #[.slice none 0 0], .bool false]) ∧ Later w w' := by
  have hb := build0
  rcases h with h | h
  · go_enter Try.func4, Try.ntmps4
    go_wp2
    exact bodyPost_ret (v := .tuple #[.agg #[.slice none 0 0], .bool false]) (by simp [results, Try.results4, go_sem]) rfl ⟨rfl, later1 _ _⟩
  · have h' : ¬ n < 0 := by omega
    go_enter Try.func4, Try.ntmps4
    go_wp2
    exact bodyPost_ret (v := .tuple #[.agg #[.slice none 0 0], .bool false]) (by simp [results, Try.results4, go_sem]) rfl ⟨rfl, later1 _ _⟩

theorem snew_yes (n : Nat) (w : World) (h : n ≤ 20000) : Calls Try.prog 4 #[.int .i64 (n : Int)] w fun e w' =>
    ∃ v, e = .returned (.tuple #[.agg #[v], .bool true]) ∧ w'.ownsRow w.heap.size 3 1 v n (List.replicate n (Value.int .i64 0)) ∧ Later w w' := by
  have hb := build1
  obtain ⟨i0, hi, hz0, hz1, hz2⟩ := info_parts Try.info3
  have h1 : ¬ (n : Int) < 0 := by omega
  have h2 : ¬ (20000 : Int) < (n : Int) := by omega
  go_enter Try.func4, Try.ntmps4
  go_wp2_with (at_make; refine wpList_make_full _ rfl _ _ 22 rfl (w.alloc (.cells #[.slice none 0 0] 24)).heap.size 3 i0 (.int .i64 0) 1 Try.underlying22 hi hz0 hz1 .i64 .i64 _ _ n rfl rfl rfl rfl (by rw [hz2]; omega) (by unfold maxLen; omega) (Nat.le_refl _) ?_; intro w1 hown hgr; have hw := grown_later hgr; obtain ⟨hc1, hf1⟩ := bcell hw; have hz : w.heap.size < w1.heap.size := by have := hw.size; simp at this; omega)
  have e : (madeCells (Value.int .i64 0).cells (n * 1)).toList = List.replicate n (Value.int .i64 0) := by rw [Nat.mul_one]; exact toList_madeCells_one _ _
  rw [e] at hown
  refine bodyPost_ret (v := .tuple #[.agg #[.slice (some ⟨w.heap.size + 1, 0, none⟩) n n], .bool true]) (by simp [results, Try.results4, go_sem, hc1]) rfl ⟨_, rfl, ?_, ?_⟩
  · refine own_mono (B := (w.alloc (.cells #[.slice none 0 0] 24)).heap.size) ?_ (by simp)
    have hown' : w1.ownsRow (w.alloc (.cells #[.slice none 0 0] 24)).heap.size 3 1 (.slice (some ⟨w.heap.size + 1, 0, none⟩) n n) n (List.replicate n (Value.int .i64 0)) := by simpa using hown
    exact ownsRow_setCell_below hown' (by simp) _
  · exact (Below.trans (later1 _ _) (Below.mono hw (by simp))).setCell (by simp) _

theorem okN_cases (n : Int) : ((n < 0 ∨ 20000 < n) ∧ okN n = false ∧ lenN n = 0) ∨ ∃ m : Nat, n = (m : Int) ∧ m ≤ 20000 ∧ okN n = true ∧ lenN n = m := by
  unfold lenN okN
  by_cases h0 : 0 ≤ n
  · by_cases h1 : n ≤ 20000
    · refine .inr ⟨n.toNat, by omega, by omega, ?_, ?_⟩
      · simp [h0, h1]
      · simp [h0, h1]
    · exact .inl ⟨by omega, by simp [h1], by simp [h1]⟩
  · exact .inl ⟨by omega, by simp [h0], by simp [h0]⟩

theorem snew_any : NewC 4 := by
  intro n w
  rcases okN_cases n with ⟨h, e1, e2⟩ | ⟨m, rfl, hm, e1, e2⟩
  · refine (snew_no n w h).mono ?_
    rintro e w' ⟨rfl, hw⟩
    exact ⟨_, by rw [e1], by rw [e2]; exact World.ownsRow_nil _ _ _ _, hw⟩
  · refine (snew_yes m w hm).mono ?_
    rintro e w' ⟨v, rfl, ho, hw⟩
    exact ⟨v, by rw [e1], by rw [e2]; exact ho, hw⟩

end Go.Proofs.Ytfmfkfijlfeimaa
