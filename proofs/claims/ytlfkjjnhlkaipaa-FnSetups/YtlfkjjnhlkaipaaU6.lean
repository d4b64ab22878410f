/- Trees held against each other by the laws' own functions eq: two readings of one tree are the same. -/
import Derived.Test.YtlfkjjnhlkaipaaU5
namespace Go.Proofs.Ytlfkjjnhlkaipaa
open Go.RowKit

set_option maxHeartbeats 1000000 in
theorem eqSe_true (x : Se) (v0 v1 u0 u1 : Value) (w : World) (h0 : RdL w 1 v0 (In.dats x.input)) (h1 : RdL w 1 v1 (In.dats x.oracle)) (k0 : RdL w 1 u0 (In.dats x.input)) (k1 : RdL w 1 u1 (In.dats x.oracle)) :
    Calls Try.prog 19 #[.agg #[.int .i64 x.half, .int .i64 x.stack, v0, .int .i64 x.fuel, v1], .agg #[.int .i64 x.half, .int .i64 x.stack, u0, .int .i64 x.fuel, u1]] w fun e w' => e = .returned (.bool true) ∧ Later w w' := by
  obtain ⟨a0, p0, rfl, _⟩ := In.slice h0
  obtain ⟨b0, q0, rfl, _⟩ := In.slice k0
  obtain ⟨a1, p1, rfl, _⟩ := In.slice h1
  obtain ⟨b1, q1, rfl, _⟩ := In.slice k1
  generalize x.half = z_half at *
  generalize x.stack = z_stack at *
  generalize x.fuel = z_fuel at *
  go_enter Try.func19, Try.ntmps19
  go_wp2_with fail
  refine (eqIns_true _ _ _ _ (RdL.later (later2 _ _ _) h0) (RdL.later (later2 _ _ _) k0)).mono ?_
  rintro e w1 ⟨rfl, l1⟩
  have L1 : Later w w1 := Later.trans (later2 _ _ _) l1
  obtain ⟨hc1, _⟩ := bcell l1
  have y1 : w.heap.size + 1 < w1.heap.size := by have := l1.size; simp at this; omega
  have x1 : w.heap.size < w1.heap.size := by omega
  go_wp2_with fail
  refine (eqIns_true _ _ _ _ (RdL.later L1 h1) (RdL.later L1 k1)).mono ?_
  rintro e w2 ⟨rfl, l2⟩
  have L2 : Later w w2 := Later.trans L1 l2
  obtain ⟨hc2, _⟩ := bcell l2
  have y2 : w.heap.size + 1 < w2.heap.size := by have := l2.size; omega
  have x2 : w.heap.size < w2.heap.size := by omega
  go_wp2_with fail
  go_ret
  exact ⟨rfl, L2⟩

end Go.Proofs.Ytlfkjjnhlkaipaa
