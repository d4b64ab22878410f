/- Trees held against each other by the laws' own functions eq: two readings of one tree are the same. -/
import Derived.Test.YthammngddmkhhaaY5
namespace Go.Proofs.Ythammngddmkhhaa
open Go.RowKit

theorem eqTy_true (tk tn : Int) (w : World) : Calls Try.prog 28 #[.agg #[.int .i64 tk, .int .i64 tn], .agg #[.int .i64 tk, .int .i64 tn]] w fun e w' => e = .returned (.bool true) ∧ Later w w' := by
  go_enter Try.func28, Try.ntmps28
  go_wp2
  go_ret
  exact ⟨rfl, later2 _ _ _⟩

set_option maxHeartbeats 2000000 in
theorem eqIns_true (v u : Value) (l : List In) (w : World) (h : RdL w 1 v (In.dats l)) (k : RdL w 1 u (In.dats l)) :
    Calls Try.prog 8 #[v, u] w fun e w' => e = .returned (.bool true) ∧ Later w w' := by
  obtain ⟨a, cap, rfl, hl⟩ := In.slice h
  obtain ⟨b, cap', rfl, _⟩ := In.slice k
  have hle : ((l.length : Int) != (l.length : Int)) = false := by simp
  go_enter Try.func8, Try.ntmps8
  go_wp2_with fail
  go_loopw [5] (fun i wr => ∃ (j n : Nat), i = .int .i64 (j : Int) ∧ j ≤ l.length ∧ wr = w.drewN n) (fun i _ => l.length - (intOf i).toNat)
  case atStart => exact ⟨0, 0, rfl, Nat.zero_le _, rfl⟩
  case round =>
    obtain ⟨j, n, rfl, hj, rfl⟩ := hrel
    by_cases hlt : j < l.length
    · obtain ⟨g, off, rfl, hg, c0⟩ := In.elem h j hlt
      obtain ⟨g', off', rfl, hg', d0⟩ := In.elem k j hlt
      have i1 : (j : Int) < (l.length : Int) := by omega
      generalize l[j] = z at *
      have hne : (z != z) = false := by simp
      clear h k
      go_wp2
      go_quiet (fail)
      go_wp2
      go_roundw
      case rel => exact ⟨j + 1, _, by go_num, by omega, rfl⟩
      case measure => simp [intOf]; omega
    · have i1 : ¬ (j : Int) < (l.length : Int) := by omega
      have i2 : decide ((j : Int) < (l.length : Int)) = false := decide_eq_false i1
      go_wp2_with fail
      go_ret
      exact ⟨rfl, later_drewN (Later.refl _) _⟩
set_option maxHeartbeats 2000000 in
theorem eqTps_true (v u : Value) (l : List Tp) (w : World) (h : RdL w 2 v (Tp.dats l)) (k : RdL w 2 u (Tp.dats l)) :
    Calls Try.prog 27 #[v, u] w fun e w' => e = .returned (.bool true) ∧ Later w w' := by
  obtain ⟨a, cap, rfl, hl⟩ := Tp.slice h
  obtain ⟨b, cap', rfl, _⟩ := Tp.slice k
  have hle : ((l.length : Int) != (l.length : Int)) = false := by simp
  go_enter Try.func27, Try.ntmps27
  go_wp2_with fail
  go_loopw [5] (fun i wr => ∃ (j : Nat), i = .int .i64 (j : Int) ∧ j ≤ l.length ∧ Later w wr) (fun i _ => l.length - (intOf i).toNat)
  case atStart => exact ⟨0, rfl, Nat.zero_le _, Later.refl _⟩
  case round =>
    obtain ⟨j, rfl, hj, lr⟩ := hrel
    by_cases hlt : j < l.length
    · obtain ⟨g, off, rfl, hg, c0, c1⟩ := Tp.elem (RdL.later lr h) j hlt
      obtain ⟨g', off', rfl, hg', d0, d1⟩ := Tp.elem (RdL.later lr k) j hlt
      have i1 : (j : Int) < (l.length : Int) := by omega
      generalize l[j] = p at *
      obtain ⟨tk, tn⟩ := p
      simp only at c0 c1 d0 d1
      clear h k
      go_wp2_with fail
      go_region_with (go_at_call 28; refine (eqTy_true _ _ _).mono ?_; rintro e w1 ⟨rfl, l1⟩)
      all_goals
        go_wp2_with fail
        go_roundw
        case rel => exact ⟨j + 1, by go_num, by omega, lr.trans ((Later.drew _).trans l1)⟩
        case measure => simp [intOf]; omega
    · have i1 : ¬ (j : Int) < (l.length : Int) := by omega
      have i2 : decide ((j : Int) < (l.length : Int)) = false := decide_eq_false i1
      go_wp2_with fail
      go_ret
      exact ⟨rfl, lr⟩

set_option maxHeartbeats 1000000 in
theorem eqVa_true (x : Va) (v0 u0 : Value) (w : World) (h0 : RdL w 1 v0 (In.dats x.args)) (k0 : RdL w 1 u0 (In.dats x.args)) :
    Calls Try.prog 41 #[.agg #[.int .i64 x.op, .int .i64 x.n, .int .i64 x.tk, .int .i64 x.tn, v0], .agg #[.int .i64 x.op, .int .i64 x.n, .int .i64 x.tk, .int .i64 x.tn, u0]] w fun e w' => e = .returned (.bool true) ∧ Later w w' := by
  obtain ⟨a0, p0, rfl, _⟩ := In.slice h0
  obtain ⟨b0, q0, rfl, _⟩ := In.slice k0
  generalize x.op = z_op at *
  generalize x.n = z_n at *
  generalize x.tk = z_tk at *
  generalize x.tn = z_tn at *
  go_enter Try.func41, Try.ntmps41
  go_wp2_with fail
  refine (eqTy_true _ _ _).mono ?_
  rintro e w1 ⟨rfl, l1⟩
  have L1 : Later w w1 := Later.trans (later2 _ _ _) l1
  obtain ⟨hc1, _⟩ := bcell l1
  have y1 : w.heap.size + 1 < w1.heap.size := by have := l1.size; simp at this; omega
  have x1 : w.heap.size < w1.heap.size := by omega
  go_wp2_with fail
  refine (eqIns_true _ _ _ _ (RdL.later L1 h0) (RdL.later L1 k0)).mono ?_
  rintro e w2 ⟨rfl, l2⟩
  have L2 : Later w w2 := Later.trans L1 l2
  obtain ⟨hc2, _⟩ := bcell l2
  have y2 : w.heap.size + 1 < w2.heap.size := by have := l2.size; omega
  have x2 : w.heap.size < w2.heap.size := by omega
  go_wp2_with fail
  go_ret
  exact ⟨rfl, L2⟩

set_option maxHeartbeats 2000000 in
theorem eqVas_true (v u : Value) (l : List Va) (w : World) (h : RdL w 5 v (Va.dats l)) (k : RdL w 5 u (Va.dats l)) :
    Calls Try.prog 29 #[v, u] w fun e w' => e = .returned (.bool true) ∧ Later w w' := by
  obtain ⟨a, cap, rfl, hl⟩ := Va.slice h
  obtain ⟨b, cap', rfl, _⟩ := Va.slice k
  have hle : ((l.length : Int) != (l.length : Int)) = false := by simp
  go_enter Try.func29, Try.ntmps29
  go_wp2_with fail
  go_loopw [5] (fun i wr => ∃ (j : Nat), i = .int .i64 (j : Int) ∧ j ≤ l.length ∧ Later w wr) (fun i _ => l.length - (intOf i).toNat)
  case atStart => exact ⟨0, rfl, Nat.zero_le _, Later.refl _⟩
  case round =>
    obtain ⟨j, rfl, hj, lr⟩ := hrel
    by_cases hlt : j < l.length
    · obtain ⟨g, off, v0, rfl, hg, c0, c1, c2, c3, c4, r0⟩ := Va.elem (RdL.later lr h) j hlt
      obtain ⟨g', off', u0, rfl, hg', d0, d1, d2, d3, d4, s0⟩ := Va.elem (RdL.later lr k) j hlt
      have i1 : (j : Int) < (l.length : Int) := by omega
      have hE := fun w' (ll : Later wr w') => eqVa_true l[j] v0 u0 w' (RdL.later ll r0) (RdL.later ll s0)
      clear r0 s0 h k
      generalize l[j].op = z_op at *
      generalize l[j].n = z_n at *
      generalize l[j].tk = z_tk at *
      generalize l[j].tn = z_tn at *
      go_wp2_with fail
      go_region_with (go_at_call 41; refine (hE _ (Later.drew _)).mono ?_; rintro e w1 ⟨rfl, l1⟩)
      all_goals
        go_wp2_with fail
        go_roundw
        case rel => exact ⟨j + 1, by go_num, by omega, lr.trans ((Later.drew _).trans l1)⟩
        case measure => simp [intOf]; omega
    · have i1 : ¬ (j : Int) < (l.length : Int) := by omega
      have i2 : decide ((j : Int) < (l.length : Int)) = false := decide_eq_false i1
      go_wp2_with fail
      go_ret
      exact ⟨rfl, lr⟩

set_option maxHeartbeats 1000000 in
theorem eqEd_true (x : Ed) (v0 u0 : Value) (w : World) (h0 : RdL w 1 v0 (In.dats x.args)) (k0 : RdL w 1 u0 (In.dats x.args)) :
    Calls Try.prog 51 #[.agg #[.int .i64 x.to, v0], .agg #[.int .i64 x.to, u0]] w fun e w' => e = .returned (.bool true) ∧ Later w w' := by
  obtain ⟨a0, p0, rfl, _⟩ := In.slice h0
  obtain ⟨b0, q0, rfl, _⟩ := In.slice k0
  generalize x.to = z_to at *
  go_enter Try.func51, Try.ntmps51
  go_wp2_with fail
  refine (eqIns_true _ _ _ _ (RdL.later (later2 _ _ _) h0) (RdL.later (later2 _ _ _) k0)).mono ?_
  rintro e w1 ⟨rfl, l1⟩
  have L1 : Later w w1 := Later.trans (later2 _ _ _) l1
  obtain ⟨hc1, _⟩ := bcell l1
  have y1 : w.heap.size + 1 < w1.heap.size := by have := l1.size; simp at this; omega
  have x1 : w.heap.size < w1.heap.size := by omega
  go_wp2_with fail
  go_ret
  exact ⟨rfl, L1⟩

set_option maxHeartbeats 2000000 in
theorem eqEds_true (v u : Value) (l : List Ed) (w : World) (h : RdL w 2 v (Ed.dats l)) (k : RdL w 2 u (Ed.dats l)) :
    Calls Try.prog 48 #[v, u] w fun e w' => e = .returned (.bool true) ∧ Later w w' := by
  obtain ⟨a, cap, rfl, hl⟩ := Ed.slice h
  obtain ⟨b, cap', rfl, _⟩ := Ed.slice k
  have hle : ((l.length : Int) != (l.length : Int)) = false := by simp
  go_enter Try.func48, Try.ntmps48
  go_wp2_with fail
  go_loopw [5] (fun i wr => ∃ (j : Nat), i = .int .i64 (j : Int) ∧ j ≤ l.length ∧ Later w wr) (fun i _ => l.length - (intOf i).toNat)
  case atStart => exact ⟨0, rfl, Nat.zero_le _, Later.refl _⟩
  case round =>
    obtain ⟨j, rfl, hj, lr⟩ := hrel
    by_cases hlt : j < l.length
    · obtain ⟨g, off, v0, rfl, hg, c0, c1, r0⟩ := Ed.elem (RdL.later lr h) j hlt
      obtain ⟨g', off', u0, rfl, hg', d0, d1, s0⟩ := Ed.elem (RdL.later lr k) j hlt
      have i1 : (j : Int) < (l.length : Int) := by omega
      have hE := fun w' (ll : Later wr w') => eqEd_true l[j] v0 u0 w' (RdL.later ll r0) (RdL.later ll s0)
      clear r0 s0 h k
      generalize l[j].to = z_to at *
      go_wp2_with fail
      go_region_with (go_at_call 51; refine (hE _ (Later.drew _)).mono ?_; rintro e w1 ⟨rfl, l1⟩)
      all_goals
        go_wp2_with fail
        go_roundw
        case rel => exact ⟨j + 1, by go_num, by omega, lr.trans ((Later.drew _).trans l1)⟩
        case measure => simp [intOf]; omega
    · have i1 : ¬ (j : Int) < (l.length : Int) := by omega
      have i2 : decide ((j : Int) < (l.length : Int)) = false := decide_eq_false i1
      go_wp2_with fail
      go_ret
      exact ⟨rfl, lr⟩

set_option maxHeartbeats 1000000 in
theorem eqBl_true (x : Bl) (v0 v1 v2 v3 u0 u1 u2 u3 : Value) (w : World) (h0 : RdL w 1 v0 (In.dats x.params)) (h1 : RdL w 1 v1 (In.dats x.code)) (h2 : RdL w 1 v2 (In.dats x.args)) (h3 : RdL w 2 v3 (Ed.dats x.out)) (k0 : RdL w 1 u0 (In.dats x.params)) (k1 : RdL w 1 u1 (In.dats x.code)) (k2 : RdL w 1 u2 (In.dats x.args)) (k3 : RdL w 2 u3 (Ed.dats x.out)) :
    Calls Try.prog 42 #[.agg #[v0, v1, .int .i64 x.term, v2, v3], .agg #[u0, u1, .int .i64 x.term, u2, u3]] w fun e w' => e = .returned (.bool true) ∧ Later w w' := by
  obtain ⟨a0, p0, rfl, _⟩ := In.slice h0
  obtain ⟨b0, q0, rfl, _⟩ := In.slice k0
  obtain ⟨a1, p1, rfl, _⟩ := In.slice h1
  obtain ⟨b1, q1, rfl, _⟩ := In.slice k1
  obtain ⟨a2, p2, rfl, _⟩ := In.slice h2
  obtain ⟨b2, q2, rfl, _⟩ := In.slice k2
  obtain ⟨a3, p3, rfl, _⟩ := Ed.slice h3
  obtain ⟨b3, q3, rfl, _⟩ := Ed.slice k3
  generalize x.term = z_term at *
  go_enter Try.func42, Try.ntmps42
  go_wp2_with fail
  refine (eqIns_true _ _ _ _ (RdL.later (later2 _ _ _) h0) (RdL.later (later2 _ _ _) k0)).mono ?_
  rintro e w1 ⟨rfl, l1⟩
  have L1 : Later w w1 := Later.trans (later2 _ _ _) l1
  obtain ⟨hc1, _⟩ := bcell l1
  have y1 : w.heap.size + 1 < w1.heap.size := by have := l1.size; simp at this; omega
  have x1 : w.heap.size < w1.heap.size := by omega
  go_wp2_with fail
  refine (eqIns_true _ _ _ _ (RdL.later L1 h1) (RdL.later L1 k1)).mono ?_
  rintro e w2 ⟨rfl, l2⟩
  have L2 : Later w w2 := Later.trans L1 l2
  obtain ⟨hc2, _⟩ := bcell l2
  have y2 : w.heap.size + 1 < w2.heap.size := by have := l2.size; omega
  have x2 : w.heap.size < w2.heap.size := by omega
  go_wp2_with fail
  refine (eqIns_true _ _ _ _ (RdL.later L2 h2) (RdL.later L2 k2)).mono ?_
  rintro e w3 ⟨rfl, l3⟩
  have L3 : Later w w3 := Later.trans L2 l3
  obtain ⟨hc3, _⟩ := bcell l3
  have y3 : w.heap.size + 1 < w3.heap.size := by have := l3.size; omega
  have x3 : w.heap.size < w3.heap.size := by omega
  go_wp2_with fail
  refine (eqEds_true _ _ _ _ (RdL.later L3 h3) (RdL.later L3 k3)).mono ?_
  rintro e w4 ⟨rfl, l4⟩
  have L4 : Later w w4 := Later.trans L3 l4
  obtain ⟨hc4, _⟩ := bcell l4
  have y4 : w.heap.size + 1 < w4.heap.size := by have := l4.size; omega
  have x4 : w.heap.size < w4.heap.size := by omega
  go_wp2_with fail
  go_ret
  exact ⟨rfl, L4⟩

set_option maxHeartbeats 2000000 in
theorem eqBls_true (v u : Value) (l : List Bl) (w : World) (h : RdL w 5 v (Bl.dats l)) (k : RdL w 5 u (Bl.dats l)) :
    Calls Try.prog 30 #[v, u] w fun e w' => e = .returned (.bool true) ∧ Later w w' := by
  obtain ⟨a, cap, rfl, hl⟩ := Bl.slice h
  obtain ⟨b, cap', rfl, _⟩ := Bl.slice k
  have hle : ((l.length : Int) != (l.length : Int)) = false := by simp
  go_enter Try.func30, Try.ntmps30
  go_wp2_with fail
  go_loopw [5] (fun i wr => ∃ (j : Nat), i = .int .i64 (j : Int) ∧ j ≤ l.length ∧ Later w wr) (fun i _ => l.length - (intOf i).toNat)
  case atStart => exact ⟨0, rfl, Nat.zero_le _, Later.refl _⟩
  case round =>
    obtain ⟨j, rfl, hj, lr⟩ := hrel
    by_cases hlt : j < l.length
    · obtain ⟨g, off, v0, v1, v2, v3, rfl, hg, c0, c1, c2, c3, c4, r0, r1, r2, r3⟩ := Bl.elem (RdL.later lr h) j hlt
      obtain ⟨g', off', u0, u1, u2, u3, rfl, hg', d0, d1, d2, d3, d4, s0, s1, s2, s3⟩ := Bl.elem (RdL.later lr k) j hlt
      have i1 : (j : Int) < (l.length : Int) := by omega
      have hE := fun w' (ll : Later wr w') => eqBl_true l[j] v0 v1 v2 v3 u0 u1 u2 u3 w' (RdL.later ll r0) (RdL.later ll r1) (RdL.later ll r2) (RdL.later ll r3) (RdL.later ll s0) (RdL.later ll s1) (RdL.later ll s2) (RdL.later ll s3)
      clear r0 r1 r2 r3 s0 s1 s2 s3 h k
      generalize l[j].term = z_term at *
      go_wp2_with fail
      go_region_with (go_at_call 42; refine (hE _ (Later.drew _)).mono ?_; rintro e w1 ⟨rfl, l1⟩)
      all_goals
        go_wp2_with fail
        go_roundw
        case rel => exact ⟨j + 1, by go_num, by omega, lr.trans ((Later.drew _).trans l1)⟩
        case measure => simp [intOf]; omega
    · have i1 : ¬ (j : Int) < (l.length : Int) := by omega
      have i2 : decide ((j : Int) < (l.length : Int)) = false := decide_eq_false i1
      go_wp2_with fail
      go_ret
      exact ⟨rfl, lr⟩

set_option maxHeartbeats 1000000 in
theorem eqFc_true (x : Fc) (v0 v1 v2 u0 u1 u2 : Value) (w : World) (h0 : RdL w 2 v0 (Tp.dats x.params)) (h1 : RdL w 5 v1 (Va.dats x.vals)) (h2 : RdL w 5 v2 (Bl.dats x.blocks)) (k0 : RdL w 2 u0 (Tp.dats x.params)) (k1 : RdL w 5 u1 (Va.dats x.vals)) (k2 : RdL w 5 u2 (Bl.dats x.blocks)) :
    Calls Try.prog 9 #[.agg #[v0, .int .i64 x.rk, .int .i64 x.rn, v1, v2], .agg #[u0, .int .i64 x.rk, .int .i64 x.rn, u1, u2]] w fun e w' => e = .returned (.bool true) ∧ Later w w' := by
  obtain ⟨a0, p0, rfl, _⟩ := Tp.slice h0
  obtain ⟨b0, q0, rfl, _⟩ := Tp.slice k0
  obtain ⟨a1, p1, rfl, _⟩ := Va.slice h1
  obtain ⟨b1, q1, rfl, _⟩ := Va.slice k1
  obtain ⟨a2, p2, rfl, _⟩ := Bl.slice h2
  obtain ⟨b2, q2, rfl, _⟩ := Bl.slice k2
  generalize x.rk = z_rk at *
  generalize x.rn = z_rn at *
  go_enter Try.func9, Try.ntmps9
  go_wp2_with fail
  refine (eqTps_true _ _ _ _ (RdL.later (later2 _ _ _) h0) (RdL.later (later2 _ _ _) k0)).mono ?_
  rintro e w1 ⟨rfl, l1⟩
  have L1 : Later w w1 := Later.trans (later2 _ _ _) l1
  obtain ⟨hc1, _⟩ := bcell l1
  have y1 : w.heap.size + 1 < w1.heap.size := by have := l1.size; simp at this; omega
  have x1 : w.heap.size < w1.heap.size := by omega
  go_wp2_with fail
  refine (eqTy_true _ _ _).mono ?_
  rintro e w2 ⟨rfl, l2⟩
  have L2 : Later w w2 := Later.trans L1 l2
  obtain ⟨hc2, _⟩ := bcell l2
  have y2 : w.heap.size + 1 < w2.heap.size := by have := l2.size; omega
  have x2 : w.heap.size < w2.heap.size := by omega
  go_wp2_with fail
  refine (eqVas_true _ _ _ _ (RdL.later L2 h1) (RdL.later L2 k1)).mono ?_
  rintro e w3 ⟨rfl, l3⟩
  have L3 : Later w w3 := Later.trans L2 l3
  obtain ⟨hc3, _⟩ := bcell l3
  have y3 : w.heap.size + 1 < w3.heap.size := by have := l3.size; omega
  have x3 : w.heap.size < w3.heap.size := by omega
  go_wp2_with fail
  refine (eqBls_true _ _ _ _ (RdL.later L3 h2) (RdL.later L3 k2)).mono ?_
  rintro e w4 ⟨rfl, l4⟩
  have L4 : Later w w4 := Later.trans L3 l4
  obtain ⟨hc4, _⟩ := bcell l4
  have y4 : w.heap.size + 1 < w4.heap.size := by have := l4.size; omega
  have x4 : w.heap.size < w4.heap.size := by omega
  go_wp2_with fail
  go_ret
  exact ⟨rfl, L4⟩

end Go.Proofs.Ythammngddmkhhaa
