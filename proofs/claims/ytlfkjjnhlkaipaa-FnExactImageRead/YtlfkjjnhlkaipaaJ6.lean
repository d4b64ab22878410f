/- Trees held against each other by the laws' own functions eq: two readings of one tree are the same. -/
import Derived.Test.YtlfkjjnhlkaipaaJ5
namespace Go.Proofs.Ytlfkjjnhlkaipaa
open Go.RowKit

theorem eqb_true {v1 v2 : Value} {zs : List Int} {w : World} (h1 : RdB w v1 zs) (h2 : RdB w v2 zs) : Calls Try.prog 12 #[v1, v2] w fun e w' => e = .returned (.bool true) ∧ Later w w' :=
  eqb_b (b := true) (show _ = _ from decide_eq_true rfl) h1 h2
set_option maxHeartbeats 2000000 in
theorem eqIns_true (v u : Value) (l : List In) (w : World) (h : RdL w 1 v (In.dats l)) (k : RdL w 1 u (In.dats l)) :
    Calls Try.prog 38 #[v, u] w fun e w' => e = .returned (.bool true) ∧ Later w w' := by
  obtain ⟨a, cap, rfl, hl⟩ := In.slice h
  obtain ⟨b, cap', rfl, _⟩ := In.slice k
  have hle : ((l.length : Int) != (l.length : Int)) = false := by simp
  go_enter Try.func38, Try.ntmps38
  go_wp2_with fail
  go_loopw [5] (fun i wr => ∃ (j n : Nat), i = .int .i64 (j : Int) ∧ j ≤ l.length ∧ wr = w.drewN n) (fun i _ => l.length - (intOf i).toNat)
  case atStart => exact ⟨0, 0, rfl, Nat.zero_le _, rfl⟩
  case round =>
    obtain ⟨j, n, rfl, hj, rfl⟩ := hrel
    by_cases hlt : j < l.length
    · obtain ⟨g, off, rfl, hg, c0⟩ := In.elem h j hlt
      obtain ⟨g', off', rfl, hg', d0⟩ := In.elem k j hlt
      have i1 : (j : Int) < (l.length : Int) := by omega
      generalize l[j] = z at *
      have hne : (z != z) = false := by simp
      clear h k
      go_wp2
      go_quiet (fail)
      go_wp2
      go_roundw
      case rel => exact ⟨j + 1, _, by go_num, by omega, rfl⟩
      case measure => simp [intOf]; omega
    · have i1 : ¬ (j : Int) < (l.length : Int) := by omega
      have i2 : decide ((j : Int) < (l.length : Int)) = false := decide_eq_false i1
      go_wp2_with fail
      go_ret
      exact ⟨rfl, later_drewN (Later.refl _) _⟩
set_option maxHeartbeats 2000000 in
theorem eqBos_true (v u : Value) (l : List Bo) (w : World) (h : RdL w 1 v (Bo.dats l)) (k : RdL w 1 u (Bo.dats l)) :
    Calls Try.prog 57 #[v, u] w fun e w' => e = .returned (.bool true) ∧ Later w w' := by
  obtain ⟨a, cap, rfl, hl⟩ := Bo.slice h
  obtain ⟨b, cap', rfl, _⟩ := Bo.slice k
  have hle : ((l.length : Int) != (l.length : Int)) = false := by simp
  go_enter Try.func57, Try.ntmps57
  go_wp2_with fail
  go_loopw [5] (fun i wr => ∃ (j n : Nat), i = .int .i64 (j : Int) ∧ j ≤ l.length ∧ wr = w.drewN n) (fun i _ => l.length - (intOf i).toNat)
  case atStart => exact ⟨0, 0, rfl, Nat.zero_le _, rfl⟩
  case round =>
    obtain ⟨j, n, rfl, hj, rfl⟩ := hrel
    by_cases hlt : j < l.length
    · obtain ⟨g, off, rfl, hg, c0⟩ := Bo.elem h j hlt
      obtain ⟨g', off', rfl, hg', d0⟩ := Bo.elem k j hlt
      have i1 : (j : Int) < (l.length : Int) := by omega
      generalize l[j] = z at *
      have hne : (z != z) = false := by simp
      clear h k
      go_wp2
      go_quiet (fail)
      go_wp2
      go_roundw
      case rel => exact ⟨j + 1, _, by go_num, by omega, rfl⟩
      case measure => simp [intOf]; omega
    · have i1 : ¬ (j : Int) < (l.length : Int) := by omega
      have i2 : decide ((j : Int) < (l.length : Int)) = false := decide_eq_false i1
      go_wp2_with fail
      go_ret
      exact ⟨rfl, later_drewN (Later.refl _) _⟩
theorem eqIs_true (p : Is) (w : World) : Calls Try.prog 96 #[.agg #[.int .i64 p.op, .int .i64 p.a, .int .i64 p.b, .int .i64 p.c, .int .i64 p.n], .agg #[.int .i64 p.op, .int .i64 p.a, .int .i64 p.b, .int .i64 p.c, .int .i64 p.n]] w fun e w' => e = .returned (.bool true) ∧ Later w w' := by
  obtain ⟨p0, p1, p2, p3, p4⟩ := p
  go_enter Try.func96, Try.ntmps96
  go_wp2
  go_ret
  exact ⟨rfl, later2 _ _ _⟩
set_option maxHeartbeats 2000000 in
theorem eqIss_true (v u : Value) (l : List Is) (w : World) (h : RdL w 5 v (Is.dats l)) (k : RdL w 5 u (Is.dats l)) :
    Calls Try.prog 84 #[v, u] w fun e w' => e = .returned (.bool true) ∧ Later w w' := by
  obtain ⟨a, cap, rfl, hl⟩ := Is.slice h
  obtain ⟨b, cap', rfl, _⟩ := Is.slice k
  have hle : ((l.length : Int) != (l.length : Int)) = false := by simp
  go_enter Try.func84, Try.ntmps84
  go_wp2_with fail
  go_loopw [5] (fun i wr => ∃ (j : Nat), i = .int .i64 (j : Int) ∧ j ≤ l.length ∧ Later w wr) (fun i _ => l.length - (intOf i).toNat)
  case atStart => exact ⟨0, rfl, Nat.zero_le _, Later.refl _⟩
  case round =>
    obtain ⟨j, rfl, hj, lr⟩ := hrel
    by_cases hlt : j < l.length
    · obtain ⟨g, off, rfl, hg, c0, c1, c2, c3, c4⟩ := Is.elem (RdL.later lr h) j hlt
      obtain ⟨g', off', rfl, hg', d0, d1, d2, d3, d4⟩ := Is.elem (RdL.later lr k) j hlt
      have i1 : (j : Int) < (l.length : Int) := by omega
      have hE := fun w' => eqIs_true l[j] w'
      clear h k
      generalize l[j].op = z_op at *
      generalize l[j].a = z_a at *
      generalize l[j].b = z_b at *
      generalize l[j].c = z_c at *
      generalize l[j].n = z_n at *
      go_wp2_with fail
      go_region_with (go_at_call 96; refine (hE _).mono ?_; rintro e w1 ⟨rfl, l1⟩)
      all_goals
        go_wp2_with fail
        go_roundw
        case rel => exact ⟨j + 1, by go_num, by omega, lr.trans ((Later.drew _).trans l1)⟩
        case measure => simp [intOf]; omega
    · have i1 : ¬ (j : Int) < (l.length : Int) := by omega
      have i2 : decide ((j : Int) < (l.length : Int)) = false := decide_eq_false i1
      go_wp2_with fail
      go_ret
      exact ⟨rfl, lr⟩

theorem eqBs_true (x : Bs) (v0 u0 : Value) (w : World) (h0 : RdL w 1 v0 (Bo.dats x.l)) (k0 : RdL w 1 u0 (Bo.dats x.l)) :
    Calls Try.prog 57 #[v0, u0] w fun e w' => e = .returned (.bool true) ∧ Later w w' := eqBos_true v0 u0 x.l w h0 k0
set_option maxHeartbeats 2000000 in
theorem eqBss_true (v u : Value) (l : List Bs) (w : World) (h : RdL w 1 v (Bs.dats l)) (k : RdL w 1 u (Bs.dats l)) :
    Calls Try.prog 30 #[v, u] w fun e w' => e = .returned (.bool true) ∧ Later w w' := by
  obtain ⟨a, cap, rfl, hl⟩ := Bs.slice h
  obtain ⟨b, cap', rfl, _⟩ := Bs.slice k
  have hle : ((l.length : Int) != (l.length : Int)) = false := by simp
  go_enter Try.func30, Try.ntmps30
  go_wp2_with fail
  go_loopw [5] (fun i wr => ∃ (j : Nat), i = .int .i64 (j : Int) ∧ j ≤ l.length ∧ Later w wr) (fun i _ => l.length - (intOf i).toNat)
  case atStart => exact ⟨0, rfl, Nat.zero_le _, Later.refl _⟩
  case round =>
    obtain ⟨j, rfl, hj, lr⟩ := hrel
    by_cases hlt : j < l.length
    · obtain ⟨g, off, v0, rfl, hg, c0, r0⟩ := Bs.elem (RdL.later lr h) j hlt
      obtain ⟨g', off', u0, rfl, hg', d0, s0⟩ := Bs.elem (RdL.later lr k) j hlt
      have i1 : (j : Int) < (l.length : Int) := by omega
      rw [Nat.mul_one] at c0 d0
      obtain ⟨a0, p0, rfl, _⟩ := Bo.slice r0
      obtain ⟨b0, q0, rfl, _⟩ := Bo.slice s0
      have hE := fun w' (ll : Later wr w') => eqBs_true l[j] _ _ w' (RdL.later ll r0) (RdL.later ll s0)
      clear r0 s0 h k
      go_wp2_with fail
      go_region_with (go_at_call 57; refine (hE _ (Later.drew _)).mono ?_; rintro e w1 ⟨rfl, l1⟩)
      all_goals
        go_wp2_with fail
        go_roundw
        case rel => exact ⟨j + 1, by go_num, by omega, lr.trans ((Later.drew _).trans l1)⟩
        case measure => simp [intOf]; omega
    · have i1 : ¬ (j : Int) < (l.length : Int) := by omega
      have i2 : decide ((j : Int) < (l.length : Int)) = false := decide_eq_false i1
      go_wp2_with fail
      go_ret
      exact ⟨rfl, lr⟩

set_option maxHeartbeats 1000000 in
theorem eqMa_true (x : Ma) (v0 u0 : Value) (w : World) (h0 : RdL w 1 v0 (In.dats x.slots)) (k0 : RdL w 1 u0 (In.dats x.slots)) :
    Calls Try.prog 97 #[.agg #[.int .i64 x.pc, v0], .agg #[.int .i64 x.pc, u0]] w fun e w' => e = .returned (.bool true) ∧ Later w w' := by
  obtain ⟨a0, p0, rfl, _⟩ := In.slice h0
  obtain ⟨b0, q0, rfl, _⟩ := In.slice k0
  generalize x.pc = z_pc at *
  go_enter Try.func97, Try.ntmps97
  go_wp2_with fail
  refine (eqIns_true _ _ _ _ (RdL.later (later2 _ _ _) h0) (RdL.later (later2 _ _ _) k0)).mono ?_
  rintro e w1 ⟨rfl, l1⟩
  have L1 : Later w w1 := Later.trans (later2 _ _ _) l1
  obtain ⟨hc1, _⟩ := bcell l1
  have y1 : w.heap.size + 1 < w1.heap.size := by have := l1.size; simp at this; omega
  have x1 : w.heap.size < w1.heap.size := by omega
  go_wp2_with fail
  go_ret
  exact ⟨rfl, L1⟩

set_option maxHeartbeats 2000000 in
theorem eqMas_true (v u : Value) (l : List Ma) (w : World) (h : RdL w 2 v (Ma.dats l)) (k : RdL w 2 u (Ma.dats l)) :
    Calls Try.prog 85 #[v, u] w fun e w' => e = .returned (.bool true) ∧ Later w w' := by
  obtain ⟨a, cap, rfl, hl⟩ := Ma.slice h
  obtain ⟨b, cap', rfl, _⟩ := Ma.slice k
  have hle : ((l.length : Int) != (l.length : Int)) = false := by simp
  go_enter Try.func85, Try.ntmps85
  go_wp2_with fail
  go_loopw [5] (fun i wr => ∃ (j : Nat), i = .int .i64 (j : Int) ∧ j ≤ l.length ∧ Later w wr) (fun i _ => l.length - (intOf i).toNat)
  case atStart => exact ⟨0, rfl, Nat.zero_le _, Later.refl _⟩
  case round =>
    obtain ⟨j, rfl, hj, lr⟩ := hrel
    by_cases hlt : j < l.length
    · obtain ⟨g, off, v0, rfl, hg, c0, c1, r0⟩ := Ma.elem (RdL.later lr h) j hlt
      obtain ⟨g', off', u0, rfl, hg', d0, d1, s0⟩ := Ma.elem (RdL.later lr k) j hlt
      have i1 : (j : Int) < (l.length : Int) := by omega
      have hE := fun w' (ll : Later wr w') => eqMa_true l[j] v0 u0 w' (RdL.later ll r0) (RdL.later ll s0)
      clear r0 s0 h k
      generalize l[j].pc = z_pc at *
      go_wp2_with fail
      go_region_with (go_at_call 97; refine (hE _ (Later.drew _)).mono ?_; rintro e w1 ⟨rfl, l1⟩)
      all_goals
        go_wp2_with fail
        go_roundw
        case rel => exact ⟨j + 1, by go_num, by omega, lr.trans ((Later.drew _).trans l1)⟩
        case measure => simp [intOf]; omega
    · have i1 : ¬ (j : Int) < (l.length : Int) := by omega
      have i2 : decide ((j : Int) < (l.length : Int)) = false := decide_eq_false i1
      go_wp2_with fail
      go_ret
      exact ⟨rfl, lr⟩

set_option maxHeartbeats 1000000 in
theorem eqCd_true (x : Cd) (v0 v1 u0 u1 : Value) (w : World) (h0 : RdL w 5 v0 (Is.dats x.ins)) (h1 : RdL w 2 v1 (Ma.dats x.maps)) (k0 : RdL w 5 u0 (Is.dats x.ins)) (k1 : RdL w 2 u1 (Ma.dats x.maps)) :
    Calls Try.prog 58 #[.agg #[.int .i64 x.frame, .int .i64 x.params, v0, v1], .agg #[.int .i64 x.frame, .int .i64 x.params, u0, u1]] w fun e w' => e = .returned (.bool true) ∧ Later w w' := by
  obtain ⟨a0, p0, rfl, _⟩ := Is.slice h0
  obtain ⟨b0, q0, rfl, _⟩ := Is.slice k0
  obtain ⟨a1, p1, rfl, _⟩ := Ma.slice h1
  obtain ⟨b1, q1, rfl, _⟩ := Ma.slice k1
  generalize x.frame = z_frame at *
  generalize x.params = z_params at *
  go_enter Try.func58, Try.ntmps58
  go_wp2_with fail
  refine (eqIss_true _ _ _ _ (RdL.later (later2 _ _ _) h0) (RdL.later (later2 _ _ _) k0)).mono ?_
  rintro e w1 ⟨rfl, l1⟩
  have L1 : Later w w1 := Later.trans (later2 _ _ _) l1
  obtain ⟨hc1, _⟩ := bcell l1
  have y1 : w.heap.size + 1 < w1.heap.size := by have := l1.size; simp at this; omega
  have x1 : w.heap.size < w1.heap.size := by omega
  go_wp2_with fail
  refine (eqMas_true _ _ _ _ (RdL.later L1 h1) (RdL.later L1 k1)).mono ?_
  rintro e w2 ⟨rfl, l2⟩
  have L2 : Later w w2 := Later.trans L1 l2
  obtain ⟨hc2, _⟩ := bcell l2
  have y2 : w.heap.size + 1 < w2.heap.size := by have := l2.size; omega
  have x2 : w.heap.size < w2.heap.size := by omega
  go_wp2_with fail
  go_ret
  exact ⟨rfl, L2⟩

set_option maxHeartbeats 2000000 in
theorem eqCds_true (v u : Value) (l : List Cd) (w : World) (h : RdL w 4 v (Cd.dats l)) (k : RdL w 4 u (Cd.dats l)) :
    Calls Try.prog 31 #[v, u] w fun e w' => e = .returned (.bool true) ∧ Later w w' := by
  obtain ⟨a, cap, rfl, hl⟩ := Cd.slice h
  obtain ⟨b, cap', rfl, _⟩ := Cd.slice k
  have hle : ((l.length : Int) != (l.length : Int)) = false := by simp
  go_enter Try.func31, Try.ntmps31
  go_wp2_with fail
  go_loopw [5] (fun i wr => ∃ (j : Nat), i = .int .i64 (j : Int) ∧ j ≤ l.length ∧ Later w wr) (fun i _ => l.length - (intOf i).toNat)
  case atStart => exact ⟨0, rfl, Nat.zero_le _, Later.refl _⟩
  case round =>
    obtain ⟨j, rfl, hj, lr⟩ := hrel
    by_cases hlt : j < l.length
    · obtain ⟨g, off, v0, v1, rfl, hg, c0, c1, c2, c3, r0, r1⟩ := Cd.elem (RdL.later lr h) j hlt
      obtain ⟨g', off', u0, u1, rfl, hg', d0, d1, d2, d3, s0, s1⟩ := Cd.elem (RdL.later lr k) j hlt
      have i1 : (j : Int) < (l.length : Int) := by omega
      have hE := fun w' (ll : Later wr w') => eqCd_true l[j] v0 v1 u0 u1 w' (RdL.later ll r0) (RdL.later ll r1) (RdL.later ll s0) (RdL.later ll s1)
      clear r0 r1 s0 s1 h k
      generalize l[j].frame = z_frame at *
      generalize l[j].params = z_params at *
      go_wp2_with fail
      go_region_with (go_at_call 58; refine (hE _ (Later.drew _)).mono ?_; rintro e w1 ⟨rfl, l1⟩)
      all_goals
        go_wp2_with fail
        go_roundw
        case rel => exact ⟨j + 1, by go_num, by omega, lr.trans ((Later.drew _).trans l1)⟩
        case measure => simp [intOf]; omega
    · have i1 : ¬ (j : Int) < (l.length : Int) := by omega
      have i2 : decide ((j : Int) < (l.length : Int)) = false := decide_eq_false i1
      go_wp2_with fail
      go_ret
      exact ⟨rfl, lr⟩

set_option maxHeartbeats 1000000 in
theorem eqIm_true (x : Im) (v0 v1 u0 u1 : Value) (w : World) (h0 : RdL w 1 v0 (Bs.dats x.structs)) (h1 : RdL w 4 v1 (Cd.dats x.codes)) (k0 : RdL w 1 u0 (Bs.dats x.structs)) (k1 : RdL w 4 u1 (Cd.dats x.codes)) :
    Calls Try.prog 11 #[.agg #[v0, v1, .int .i64 x.main], .agg #[u0, u1, .int .i64 x.main]] w fun e w' => e = .returned (.bool true) ∧ Later w w' := by
  obtain ⟨a0, p0, rfl, _⟩ := Bs.slice h0
  obtain ⟨b0, q0, rfl, _⟩ := Bs.slice k0
  obtain ⟨a1, p1, rfl, _⟩ := Cd.slice h1
  obtain ⟨b1, q1, rfl, _⟩ := Cd.slice k1
  generalize x.main = z_main at *
  go_enter Try.func11, Try.ntmps11
  go_wp2_with fail
  refine (eqBss_true _ _ _ _ (RdL.later (later2 _ _ _) h0) (RdL.later (later2 _ _ _) k0)).mono ?_
  rintro e w1 ⟨rfl, l1⟩
  have L1 : Later w w1 := Later.trans (later2 _ _ _) l1
  obtain ⟨hc1, _⟩ := bcell l1
  have y1 : w.heap.size + 1 < w1.heap.size := by have := l1.size; simp at this; omega
  have x1 : w.heap.size < w1.heap.size := by omega
  go_wp2_with fail
  refine (eqCds_true _ _ _ _ (RdL.later L1 h1) (RdL.later L1 k1)).mono ?_
  rintro e w2 ⟨rfl, l2⟩
  have L2 : Later w w2 := Later.trans L1 l2
  obtain ⟨hc2, _⟩ := bcell l2
  have y2 : w.heap.size + 1 < w2.heap.size := by have := l2.size; omega
  have x2 : w.heap.size < w2.heap.size := by omega
  go_wp2_with fail
  go_ret
  exact ⟨rfl, L2⟩

end Go.Proofs.Ytlfkjjnhlkaipaa
