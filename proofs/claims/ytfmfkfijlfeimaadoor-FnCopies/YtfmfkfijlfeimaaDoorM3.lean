/- NewMemory: the model's, and the walk of its exact law. -/
import Derived.Test.YtfmfkfijlfeimaaDoorM2
namespace Go.Proofs.YtfmfkfijlfeimaaDoor
open Go.RowKit

theorem later_own {w w' : World} {b : Nat} {v : Value} {n : Nat} {xs : List Value} (h : w.ownsRow b 3 1 v n xs) (hb : Later w w') : w'.ownsRow b 3 1 v n xs :=
  h.kept (row := none) ⟨hb.os, hb.tape, hb.output, hb.size, fun k hk _ => hb.block k hk⟩ (by cases h : v.ownBlock <;> simp)
/-- A variable's cell. -/
structure Box (w : World) (b : Nat) (v : Value) : Prop where
  cell : w.cell? ⟨b, 0, none⟩ = some v
  lt : b < w.heap.size
theorem Box.later {w w' : World} {b : Nat} {v : Value} (h : Box w b v) (hb : Later w w') : Box w' b v :=
  ⟨by rw [Below.cell hb (p := ⟨b, 0, none⟩) h.lt]; exact h.cell, Nat.lt_of_lt_of_le h.lt hb.size⟩
theorem Box.grown {w w' : World} {b g : Nat} {v : Value} (h : Box w b v) (hg : w.grownBy w' (some g)) (hn : b ≠ g) : Box w' b v :=
  ⟨hg.cell h.cell (by simpa using hn), Nat.lt_of_lt_of_le h.lt hg.size⟩
theorem Box.new (w : World) (v : Value) (t : TypeId) : Box (w.alloc (.cells #[v] t)) w.heap.size v := ⟨by simp, by simp⟩

theorem grown_later {w w' : World} (h : w.grownBy w' none) : Later w w' := ⟨h.os, h.tape, h.output, h.size, fun k hk => h.block k hk (by simp)⟩
def okN (n : Int) : Bool := decide (0 ≤ n) && decide (n ≤ 20000)
def lenN (n : Int) : Nat := if okN n then n.toNat else 0
/-- What NewMemory answers. -/
def NewC (f : Nat) : Prop := ∀ (n : Int) (w : World), Calls Tryd.prog f #[.int .i64 n] w fun e w' =>
  ∃ v, e = .returned (.tuple #[.agg #[v], .bool (okN n)]) ∧ w'.ownsRow w.heap.size 3 1 v (lenN n) (List.replicate (lenN n) (Value.int .i64 0)) ∧ Later w w'

theorem build0 (w : World) : (Instr.build 25 #[]).run Tryd.prog w = .ok (.agg #[.slice none 0 0]) w := run_build w 25 _ _ (by kernel_rfl)
theorem build1 (a : Option Addr) (n m : Nat) (w : World) : (Instr.build 25 #[(0, .slice a n m)]).run Tryd.prog w = .ok (.agg #[.slice a n m]) w := run_build w 25 _ _ (by kernel_rfl)

theorem okN_cases (n : Int) : ((n < 0 ∨ 20000 < n) ∧ okN n = false ∧ lenN n = 0) ∨ ∃ m : Nat, n = (m : Int) ∧ m ≤ 20000 ∧ okN n = true ∧ lenN n = m := by
  unfold lenN okN
  by_cases h0 : 0 ≤ n
  · by_cases h1 : n ≤ 20000
    · refine .inr ⟨n.toNat, by omega, by omega, ?_, ?_⟩
      · simp [h0, h1]
      · simp [h0, h1]
    · exact .inl ⟨by omega, by simp [h1], by simp [h1]⟩
  · exact .inl ⟨by omega, by simp [h0], by simp [h0]⟩

end Go.Proofs.YtfmfkfijlfeimaaDoor
