/- How much a tree takes: the laws' own functions sz. -/
import Derived.Test.YtlfkjjnhlkaipaaU2
import Derived.Deep.RegionWith
namespace Go.Proofs.Ytlfkjjnhlkaipaa
open Go.RowKit

set_option maxHeartbeats 1000000 in
theorem szSe_any (x : Se) (v0 v1 : Value) (left : Int) (w : World) (h0 : RdL w 1 v0 (In.dats x.input)) (h1 : RdL w 1 v1 (In.dats x.oracle)) (hl0 : 0 ≤ left) (hl1 : left ≤ 1048576) :
    Calls Try.prog 16 #[.agg #[.int .i64 x.half, .int .i64 x.stack, v0, .int .i64 x.fuel, v1], .int .i64 left] w fun e w' => e = .returned (.int .i64 (szR left x.sz)) ∧ Later w w' := by
  have L0 := later1 w (.cells #[.int .i64 x.half, .int .i64 x.stack, v0, .int .i64 x.fuel, v1] 40)
  have hsz : x.sz = In.szs x.input + In.szs x.oracle := by obtain ⟨half, stack, input, fuel, oracle⟩ := x; rfl
  rw [hsz]
  obtain ⟨a0, p0, rfl, _⟩ := In.slice h0
  obtain ⟨a1, p1, rfl, _⟩ := In.slice h1
  clear hsz
  generalize x.half = z_half at *
  generalize x.stack = z_stack at *
  generalize x.fuel = z_fuel at *
  go_enter Try.func16, Try.ntmps16
  go_wp2_with fail
  refine (szIns_any _ _ (left) _ (RdL.later L0 h0) (by omega) (by omega)).mono ?_
  rintro e w1 ⟨rfl, l1⟩
  by_cases q0 : ((In.szs x.input : Nat) : Int) ≤ left
  · rw [szR_pos q0]
    have n0 : ¬ left - ((In.szs x.input : Nat) : Int) < 0 := by omega
    have bx1 : w1.cell? ⟨w.heap.size, 4, none⟩ = some (.slice a1 x.oracle.length p1) := by rw [Below.cell (l1) (p := ⟨w.heap.size, 4, none⟩) (by simp)]; simp
    go_wp2_with fail
    refine (szIns_any _ _ (left - ((In.szs x.input : Nat) : Int)) _ (RdL.later (L0.trans l1) h1) (by omega) (by omega)).mono ?_
    rintro e w2 ⟨rfl, l2⟩
    by_cases q1 : ((In.szs x.oracle : Nat) : Int) ≤ left - ((In.szs x.input : Nat) : Int)
    · rw [szR_pos q1]
      have n1 : ¬ left - ((In.szs x.input : Nat) : Int) - ((In.szs x.oracle : Nat) : Int) < 0 := by omega
      go_wp2_with fail
      go_ret
      exact ⟨ret_int (by rw [szR_pos (by omega)]; first | done | omega), ((L0.trans l1).trans l2)⟩
    · rw [szR_neg q1]
      go_wp2_with fail
      go_ret
      exact ⟨ret_int (by rw [szR_neg (by omega)]), ((L0.trans l1).trans l2)⟩
  · rw [szR_neg q0]
    go_wp2_with fail
    go_ret
    exact ⟨ret_int (by rw [szR_neg (by omega)]), (L0.trans l1)⟩

end Go.Proofs.Ytlfkjjnhlkaipaa
