/- Marks over trees of functions that came in: by types. -/
import Derived.Test.YthammngddmkhhaaT71
namespace Go.Proofs.Ythammngddmkhhaa
open Go.RowKit

theorem In.skElem {P : Nat → Prop} {w : World} {l : List In} {v : Value} (h : Sk P w (.list 1 (In.dats l)) [v]) (j : Nat) (hj : j < l.length) : ∃ g cap y0, v = .slice (some ⟨g, 0, none⟩) l.length cap ∧ P g ∧ g < w.heap.size ∧ w.cell? ⟨g, j, none⟩ = some (.int .i64 y0) ∧ w.frozen? ⟨g, j, none⟩ = false := by
  obtain ⟨g, cap, cs, rfl, hp, hg, _, hc, hd⟩ := h.elem j (by rw [In.dats_len]; exact hj)
  have e : (In.dats l)[j]'(by rw [In.dats_len]; exact hj) = .int l[j] := List.getElem_map ..
  rw [e, Sk] at hd
  obtain ⟨z, rfl⟩ := hd
  have := hc 0 _ rfl
  rw [Nat.mul_one, Nat.add_zero] at this
  exact ⟨g, cap, z, by rw [In.dats_len], hp, hg, this.1, this.2⟩
set_option maxHeartbeats 2000000 in
theorem markIns_sk {P : Nat → Prop} (v : Value) (l : List In) (k : Int) (w : World) (h : Sk P w (.list 1 (In.dats l)) [v]) (h0 : 0 ≤ k) (h1 : k + 16 * In.szs l ≤ 4611686018427387904) :
    Calls Try.prog 11 #[v, .int .i64 k] w (MkQ P w k (16 * In.szs l)) := by
  unfold In.szs at *
  obtain ⟨a, cap, rfl, hl⟩ := h.lslice
  simp only [In.dats_len] at h hl ⊢
  go_enter Try.func11, Try.ntmps11
  go_wp2_with fail
  go_loopw [1, 5] (fun kk i wr => ∃ j : Nat, kk = .int .i64 (k + j) ∧ i = .int .i64 (j : Int) ∧ j ≤ l.length ∧ Inks P w wr) (fun _ i _ => l.length - (intOf i).toNat)
  case atStart => exact ⟨0, by simp, rfl, Nat.zero_le _, Inks.refl _ _⟩
  case round =>
    obtain ⟨j, rfl, rfl, hj, hw⟩ := hrel
    by_cases hlt : j < l.length
    · obtain ⟨g, cap', y0, e, hp, hg, hz, hf⟩ := In.skElem (h.slice_inks hw) j hlt
      cases e
      have hi : (j : Int) < (l.length : Int) := by omega
      have hst := hw.set hp (k + j) hz
      have hb1 : 0 ≤ k + j := by omega
      have hb2 : k + j ≤ 4611686018427387904 := by omega
      clear hw h
      go_wp2_with fail
      go_roundw
      case rel => exact ⟨j + 1, by go_num, by go_num, by omega, hst⟩
      case measure => simp [intOf]; omega
    · have hlt' : decide ((j : Int) < (l.length : Int)) = false := by simp; omega
      have hjn : j = l.length := by omega
      subst hjn
      clear h
      go_wp2_with fail
      go_ret
      exact ⟨_, rfl, by omega, by omega, hw⟩
theorem Tp.skElem {P : Nat → Prop} {w : World} {l : List Tp} {v : Value} (h : Sk P w (.list 2 (Tp.dats l)) [v]) (j : Nat) (hj : j < l.length) : ∃ g cap y0 y1, v = .slice (some ⟨g, 0, none⟩) l.length cap ∧ P g ∧ g < w.heap.size ∧ w.cell? ⟨g, j * 2, none⟩ = some (.int .i64 y0) ∧ w.cell? ⟨g, j * 2 + 1, none⟩ = some (.int .i64 y1) ∧ w.frozen? ⟨g, j * 2, none⟩ = false ∧ w.frozen? ⟨g, j * 2 + 1, none⟩ = false := by
  obtain ⟨g, cap, cs, rfl, hp, hg, _, hc, hd⟩ := h.elem j (by rw [Tp.dats_len]; exact hj)
  have e : (Tp.dats l)[j]'(by rw [Tp.dats_len]; exact hj) = Tp.dat l[j] := List.getElem_map ..
  rw [e, Tp.dat, Sk, SkAgg] at hd
  obtain ⟨c1, c2, rfl, h1, hd⟩ := hd
  rw [SkAgg] at hd
  obtain ⟨c3, c4, rfl, h2, hd⟩ := hd
  rw [SkAgg] at hd
  rw [Sk] at h1 h2
  obtain ⟨y0, rfl⟩ := h1
  obtain ⟨y1, rfl⟩ := h2
  subst hd
  exact ⟨g, cap, y0, y1, by rw [Tp.dats_len], hp, hg, (hc 0 _ rfl).1, (hc 1 _ rfl).1, (hc 0 _ rfl).2, (hc 1 _ rfl).2⟩
set_option maxHeartbeats 2000000 in
theorem markTps_sk {P : Nat → Prop} (v : Value) (l : List Tp) (k : Int) (w : World) (h : Sk P w (.list 2 (Tp.dats l)) [v]) (h0 : 0 ≤ k) (h1 : k + 16 * Tp.szs l ≤ 4611686018427387904) :
    Calls Try.prog 31 #[v, .int .i64 k] w (MkQ P w k (16 * Tp.szs l)) := by
  unfold Tp.szs at *
  obtain ⟨a, cap, rfl, hl⟩ := h.lslice
  simp only [Tp.dats_len] at h hl ⊢
  go_enter Try.func31, Try.ntmps31
  go_wp2_with fail
  go_loopw [1, 5] (fun kk i wr => ∃ j : Nat, kk = .int .i64 (k + 2 * j) ∧ i = .int .i64 (j : Int) ∧ j ≤ l.length ∧ Inks P w wr) (fun _ i _ => l.length - (intOf i).toNat)
  case atStart => exact ⟨0, by simp, rfl, Nat.zero_le _, Inks.refl _ _⟩
  case round =>
    obtain ⟨j, rfl, rfl, hj, hw⟩ := hrel
    by_cases hlt : j < l.length
    · obtain ⟨g, cap', y0, y1, e, hp, hg, hz, hz1, hf, hf1⟩ := Tp.skElem (h.slice_inks hw) j hlt
      cases e
      have hi : (j : Int) < (l.length : Int) := by omega
      have hst := hw.set hp (k + 2 * j) hz
      obtain ⟨y2, hz2⟩ := ((Inks.refl P wr).set hp (k + 2 * j) hz).int hg hz1
      have hst := hst.set hp (k + 2 * j + 1) hz2
      have hb1 : 0 ≤ k + 2 * j := by omega
      have hb2 : k + 2 * j ≤ 4611686018427387904 := by omega
      have hb3 : -9223372036854775808 ≤ k + 2 * j + 1 := by omega
      have hb4 : k + 2 * j + 1 ≤ 9223372036854775807 := by omega
      clear hw h hz2
      go_wp2_with fail
      go_roundw
      case rel => exact ⟨j + 1, by go_num, by go_num, by omega, hst⟩
      case measure => simp [intOf]; omega
    · have hlt' : decide ((j : Int) < (l.length : Int)) = false := by simp; omega
      have hjn : j = l.length := by omega
      subst hjn
      clear h
      go_wp2_with fail
      go_ret
      exact ⟨_, rfl, by omega, by omega, hw⟩

theorem Va.szEq (x : Va) : x.sz = In.szs x.args := by obtain ⟨op, n, tk, tn, args⟩ := x; rfl
theorem Va.skView {P : Nat → Prop} {w : World} {x : Va} {cs : List Value} (h : Sk P w x.dat cs) : ∃ y0 y1 y2 y3 a4 p4, cs = [.int .i64 y0, .int .i64 y1, .int .i64 y2, .int .i64 y3, .slice a4 x.args.length p4] ∧ Sk P w (.list 1 (In.dats x.args)) [.slice a4 x.args.length p4] := by
  obtain ⟨op, n, tk, tn, args⟩ := x
  rw [Va.dat, Sk] at h
  rw [SkAgg] at h
  obtain ⟨c0, d0, rfl, h0, h⟩ := h
  rw [Sk] at h0
  obtain ⟨y0, rfl⟩ := h0
  rw [SkAgg] at h
  obtain ⟨c1, d1, rfl, h1, h⟩ := h
  rw [Sk] at h1
  obtain ⟨y1, rfl⟩ := h1
  rw [SkAgg] at h
  obtain ⟨c2, d2, rfl, h2, h⟩ := h
  rw [Sk] at h2
  obtain ⟨y2, rfl⟩ := h2
  rw [SkAgg] at h
  obtain ⟨c3, d3, rfl, h3, h⟩ := h
  rw [Sk] at h3
  obtain ⟨y3, rfl⟩ := h3
  rw [SkAgg] at h
  obtain ⟨c4, d4, rfl, h4, h⟩ := h
  have e4 := h4
  rw [Sk] at e4
  obtain ⟨a4, p4, rfl, _⟩ := e4
  rw [In.dats_len] at h4
  rw [SkAgg] at h
  subst h
  exact ⟨_, _, _, _, _, _, by simp only [In.dats_len]; rfl, h4⟩
theorem Va.skElem {P : Nat → Prop} {w : World} {l : List Va} {v : Value} (h : Sk P w (.list 5 (Va.dats l)) [v]) (j : Nat) (hj : j < l.length) : ∃ g cap y0 y1 y2 y3 a4 p4, v = .slice (some ⟨g, 0, none⟩) l.length cap ∧ P g ∧ g < w.heap.size ∧ w.cell? ⟨g, j * 5, none⟩ = some (.int .i64 y0) ∧ w.cell? ⟨g, j * 5 + 1, none⟩ = some (.int .i64 y1) ∧ w.cell? ⟨g, j * 5 + 2, none⟩ = some (.int .i64 y2) ∧ w.cell? ⟨g, j * 5 + 3, none⟩ = some (.int .i64 y3) ∧ w.cell? ⟨g, j * 5 + 4, none⟩ = some (.slice a4 l[j].args.length p4) ∧ w.frozen? ⟨g, j * 5, none⟩ = false ∧ w.frozen? ⟨g, j * 5 + 1, none⟩ = false ∧ w.frozen? ⟨g, j * 5 + 2, none⟩ = false ∧ w.frozen? ⟨g, j * 5 + 3, none⟩ = false ∧ Sk P w (.list 1 (In.dats l[j].args)) [.slice a4 l[j].args.length p4] := by
  obtain ⟨g, cap, cs, rfl, hp, hg, _, hc, hd⟩ := h.elem j (by rw [Va.dats_len]; exact hj)
  rw [Va.dats_at l j hj] at hd
  obtain ⟨y0, y1, y2, y3, a4, p4, rfl, r4⟩ := Va.skView hd
  exact ⟨g, cap, y0, y1, y2, y3, a4, p4, by rw [Va.dats_len], hp, hg, (hc 0 _ rfl).1, (hc 1 _ rfl).1, (hc 2 _ rfl).1, (hc 3 _ rfl).1, (hc 4 _ rfl).1, (hc 0 _ rfl).2, (hc 1 _ rfl).2, (hc 2 _ rfl).2, (hc 3 _ rfl).2, r4⟩
set_option maxHeartbeats 2000000 in
theorem markVas_sk {P : Nat → Prop} (v : Value) (l : List Va) (k : Int) (w : World) (h : Sk P w (.list 5 (Va.dats l)) [v]) (h0 : 0 ≤ k) (h1 : k + 16 * Va.szs l ≤ 4611686018427387904) :
    Calls Try.prog 32 #[v, .int .i64 k] w (MkQ P w k (16 * Va.szs l)) := by
  obtain ⟨a, cap, rfl, hl⟩ := h.lslice
  simp only [Va.dats_len] at h hl ⊢
  have hpa := Va.pre_all l
  go_enter Try.func32, Try.ntmps32
  go_wp2_with fail
  go_loopw [1, 5] (fun kk i wr => ∃ (j : Nat) (k' : Int), kk = .int .i64 k' ∧ i = .int .i64 (j : Int) ∧ j ≤ l.length ∧ k ≤ k' ∧ k' ≤ k + 16 * ((j + Va.pre l j : Nat) : Int) ∧ Inks P w wr) (fun _ i _ => l.length - (intOf i).toNat)
  case atStart => exact ⟨0, k, rfl, rfl, Nat.zero_le _, Int.le_refl _, by rw [Va.pre_zero]; simp, Inks.refl _ _⟩
  case round =>
    obtain ⟨j, k', rfl, rfl, hj, hk0, hk1, hw⟩ := hrel
    by_cases hlt : j < l.length
    · obtain ⟨g, cap', y0, y1, y2, y3, a4, p4, e, hp, hg, c0, c1, c2, c3, c4, f0, f1, f2, f3, r4⟩ := Va.skElem (h.slice_inks hw) j hlt
      cases e
      have i1 : (j : Int) < (l.length : Int) := by omega
      have hps := Va.pre_succ hlt
      have hpl := Va.pre_le l (j + 1) (by omega)
      rw [Va.szEq] at hps
      have hZ : Hid (Va.pre l (j + 1) = Va.pre l j + (In.szs l[j].args)) := hps
      have hK1 : 0 ≤ k' := by omega
      have hK2 : k' ≤ 4611686018427387904 := by omega
      have hB : k' + 16 + 16 * (In.szs l[j].args : Nat) ≤ 4611686018427387904 := by omega
      clear h hps hpl hpa
      have I0 : Inks P wr wr := Inks.refl _ _
      have w0a : -9223372036854775808 ≤ k' + 1 := by omega
      have w0b : k' + 1 ≤ 9223372036854775807 := by omega
      have w1a : -9223372036854775808 ≤ k' + 1 + 1 := by omega
      have w1b : k' + 1 + 1 ≤ 9223372036854775807 := by omega
      have w2a : -9223372036854775808 ≤ k' + 1 + 1 + 1 := by omega
      have w2b : k' + 1 + 1 + 1 ≤ 9223372036854775807 := by omega
      have w3a : -9223372036854775808 ≤ k' + 1 + 1 + 1 + 1 := by omega
      have w3b : k' + 1 + 1 + 1 + 1 ≤ 9223372036854775807 := by omega
      have K0_0 : Inks P wr wr := Inks.refl _ _
      obtain ⟨x0, d0⟩ := K0_0.int hg c0
      have K0_1 := K0_0.set hp (k') d0
      obtain ⟨x1, d1⟩ := K0_1.int hg c1
      have K0_2 := K0_1.set hp (k' + 1) d1
      obtain ⟨x2, d2⟩ := K0_2.int hg c2
      have K0_3 := K0_2.set hp (k' + 1 + 1) d2
      obtain ⟨x3, d3⟩ := K0_3.int hg c3
      have K0_4 := K0_3.set hp (k' + 1 + 1 + 1) d3
      have I0r0 := I0.trans K0_4
      clear d0
      clear d1
      clear d2
      clear d3
      go_wp2_with fail
      refine (markIns_sk _ _ _ _ (r4.slice_inks I0r0) (by omega) (by omega)).mono ?_
      rintro e w1 ⟨k1, rfl, u1, t1, J1⟩
      have I1 := I0r0.trans J1
      have hgw1 := Nat.lt_of_lt_of_le hg I1.size
      have IE := hw.trans I1
      go_wp2_with fail
      go_roundw
      case rel => exact ⟨j + 1, k1, by first | rfl | go_num, by go_num, by omega, by omega, by rw [hZ.out]; omega, IE⟩
      case measure => simp [intOf]; omega
    · have i1 : ¬ (j : Int) < (l.length : Int) := by omega
      have i2 : decide ((j : Int) < (l.length : Int)) = false := decide_eq_false i1
      have hkk : j = l.length := by omega
      subst hkk
      clear h
      go_wp2_with fail
      go_ret
      exact ⟨_, rfl, by omega, by omega, hw⟩

theorem Ed.szEq (x : Ed) : x.sz = In.szs x.args := by obtain ⟨to, args⟩ := x; rfl
theorem Ed.skView {P : Nat → Prop} {w : World} {x : Ed} {cs : List Value} (h : Sk P w x.dat cs) : ∃ y0 a1 p1, cs = [.int .i64 y0, .slice a1 x.args.length p1] ∧ Sk P w (.list 1 (In.dats x.args)) [.slice a1 x.args.length p1] := by
  obtain ⟨to, args⟩ := x
  rw [Ed.dat, Sk] at h
  rw [SkAgg] at h
  obtain ⟨c0, d0, rfl, h0, h⟩ := h
  rw [Sk] at h0
  obtain ⟨y0, rfl⟩ := h0
  rw [SkAgg] at h
  obtain ⟨c1, d1, rfl, h1, h⟩ := h
  have e1 := h1
  rw [Sk] at e1
  obtain ⟨a1, p1, rfl, _⟩ := e1
  rw [In.dats_len] at h1
  rw [SkAgg] at h
  subst h
  exact ⟨_, _, _, by simp only [In.dats_len]; rfl, h1⟩
theorem Ed.skElem {P : Nat → Prop} {w : World} {l : List Ed} {v : Value} (h : Sk P w (.list 2 (Ed.dats l)) [v]) (j : Nat) (hj : j < l.length) : ∃ g cap y0 a1 p1, v = .slice (some ⟨g, 0, none⟩) l.length cap ∧ P g ∧ g < w.heap.size ∧ w.cell? ⟨g, j * 2, none⟩ = some (.int .i64 y0) ∧ w.cell? ⟨g, j * 2 + 1, none⟩ = some (.slice a1 l[j].args.length p1) ∧ w.frozen? ⟨g, j * 2, none⟩ = false ∧ Sk P w (.list 1 (In.dats l[j].args)) [.slice a1 l[j].args.length p1] := by
  obtain ⟨g, cap, cs, rfl, hp, hg, _, hc, hd⟩ := h.elem j (by rw [Ed.dats_len]; exact hj)
  rw [Ed.dats_at l j hj] at hd
  obtain ⟨y0, a1, p1, rfl, r1⟩ := Ed.skView hd
  exact ⟨g, cap, y0, a1, p1, by rw [Ed.dats_len], hp, hg, (hc 0 _ rfl).1, (hc 1 _ rfl).1, (hc 0 _ rfl).2, r1⟩
set_option maxHeartbeats 2000000 in
theorem markEds_sk {P : Nat → Prop} (v : Value) (l : List Ed) (k : Int) (w : World) (h : Sk P w (.list 2 (Ed.dats l)) [v]) (h0 : 0 ≤ k) (h1 : k + 16 * Ed.szs l ≤ 4611686018427387904) :
    Calls Try.prog 43 #[v, .int .i64 k] w (MkQ P w k (16 * Ed.szs l)) := by
  obtain ⟨a, cap, rfl, hl⟩ := h.lslice
  simp only [Ed.dats_len] at h hl ⊢
  have hpa := Ed.pre_all l
  go_enter Try.func43, Try.ntmps43
  go_wp2_with fail
  go_loopw [1, 5] (fun kk i wr => ∃ (j : Nat) (k' : Int), kk = .int .i64 k' ∧ i = .int .i64 (j : Int) ∧ j ≤ l.length ∧ k ≤ k' ∧ k' ≤ k + 16 * ((j + Ed.pre l j : Nat) : Int) ∧ Inks P w wr) (fun _ i _ => l.length - (intOf i).toNat)
  case atStart => exact ⟨0, k, rfl, rfl, Nat.zero_le _, Int.le_refl _, by rw [Ed.pre_zero]; simp, Inks.refl _ _⟩
  case round =>
    obtain ⟨j, k', rfl, rfl, hj, hk0, hk1, hw⟩ := hrel
    by_cases hlt : j < l.length
    · obtain ⟨g, cap', y0, a1, p1, e, hp, hg, c0, c1, f0, r1⟩ := Ed.skElem (h.slice_inks hw) j hlt
      cases e
      have i1 : (j : Int) < (l.length : Int) := by omega
      have hps := Ed.pre_succ hlt
      have hpl := Ed.pre_le l (j + 1) (by omega)
      rw [Ed.szEq] at hps
      have hZ : Hid (Ed.pre l (j + 1) = Ed.pre l j + (In.szs l[j].args)) := hps
      have hK1 : 0 ≤ k' := by omega
      have hK2 : k' ≤ 4611686018427387904 := by omega
      have hB : k' + 16 + 16 * (In.szs l[j].args : Nat) ≤ 4611686018427387904 := by omega
      clear h hps hpl hpa
      have I0 : Inks P wr wr := Inks.refl _ _
      have w0a : -9223372036854775808 ≤ k' + 1 := by omega
      have w0b : k' + 1 ≤ 9223372036854775807 := by omega
      have K0_0 : Inks P wr wr := Inks.refl _ _
      obtain ⟨x0, d0⟩ := K0_0.int hg c0
      have K0_1 := K0_0.set hp (k') d0
      have I0r0 := I0.trans K0_1
      clear d0
      go_wp2_with fail
      refine (markIns_sk _ _ _ _ (r1.slice_inks I0r0) (by omega) (by omega)).mono ?_
      rintro e w1 ⟨k1, rfl, u1, t1, J1⟩
      have I1 := I0r0.trans J1
      have hgw1 := Nat.lt_of_lt_of_le hg I1.size
      have IE := hw.trans I1
      go_wp2_with fail
      go_roundw
      case rel => exact ⟨j + 1, k1, by first | rfl | go_num, by go_num, by omega, by omega, by rw [hZ.out]; omega, IE⟩
      case measure => simp [intOf]; omega
    · have i1 : ¬ (j : Int) < (l.length : Int) := by omega
      have i2 : decide ((j : Int) < (l.length : Int)) = false := decide_eq_false i1
      have hkk : j = l.length := by omega
      subst hkk
      clear h
      go_wp2_with fail
      go_ret
      exact ⟨_, rfl, by omega, by omega, hw⟩

theorem Bl.szEq (x : Bl) : x.sz = In.szs x.params + In.szs x.code + In.szs x.args + Ed.szs x.out := by obtain ⟨params, code, term, args, out⟩ := x; rfl
theorem Bl.skView {P : Nat → Prop} {w : World} {x : Bl} {cs : List Value} (h : Sk P w x.dat cs) : ∃ a0 p0 a1 p1 y2 a3 p3 a4 p4, cs = [.slice a0 x.params.length p0, .slice a1 x.code.length p1, .int .i64 y2, .slice a3 x.args.length p3, .slice a4 x.out.length p4] ∧ Sk P w (.list 1 (In.dats x.params)) [.slice a0 x.params.length p0] ∧ Sk P w (.list 1 (In.dats x.code)) [.slice a1 x.code.length p1] ∧ Sk P w (.list 1 (In.dats x.args)) [.slice a3 x.args.length p3] ∧ Sk P w (.list 2 (Ed.dats x.out)) [.slice a4 x.out.length p4] := by
  obtain ⟨params, code, term, args, out⟩ := x
  rw [Bl.dat, Sk] at h
  rw [SkAgg] at h
  obtain ⟨c0, d0, rfl, h0, h⟩ := h
  have e0 := h0
  rw [Sk] at e0
  obtain ⟨a0, p0, rfl, _⟩ := e0
  rw [In.dats_len] at h0
  rw [SkAgg] at h
  obtain ⟨c1, d1, rfl, h1, h⟩ := h
  have e1 := h1
  rw [Sk] at e1
  obtain ⟨a1, p1, rfl, _⟩ := e1
  rw [In.dats_len] at h1
  rw [SkAgg] at h
  obtain ⟨c2, d2, rfl, h2, h⟩ := h
  rw [Sk] at h2
  obtain ⟨y2, rfl⟩ := h2
  rw [SkAgg] at h
  obtain ⟨c3, d3, rfl, h3, h⟩ := h
  have e3 := h3
  rw [Sk] at e3
  obtain ⟨a3, p3, rfl, _⟩ := e3
  rw [In.dats_len] at h3
  rw [SkAgg] at h
  obtain ⟨c4, d4, rfl, h4, h⟩ := h
  have e4 := h4
  rw [Sk] at e4
  obtain ⟨a4, p4, rfl, _⟩ := e4
  rw [Ed.dats_len] at h4
  rw [SkAgg] at h
  subst h
  exact ⟨_, _, _, _, _, _, _, _, _, by simp only [Ed.dats_len, In.dats_len]; rfl, h0, h1, h3, h4⟩
theorem Bl.skElem {P : Nat → Prop} {w : World} {l : List Bl} {v : Value} (h : Sk P w (.list 5 (Bl.dats l)) [v]) (j : Nat) (hj : j < l.length) : ∃ g cap a0 p0 a1 p1 y2 a3 p3 a4 p4, v = .slice (some ⟨g, 0, none⟩) l.length cap ∧ P g ∧ g < w.heap.size ∧ w.cell? ⟨g, j * 5, none⟩ = some (.slice a0 l[j].params.length p0) ∧ w.cell? ⟨g, j * 5 + 1, none⟩ = some (.slice a1 l[j].code.length p1) ∧ w.cell? ⟨g, j * 5 + 2, none⟩ = some (.int .i64 y2) ∧ w.cell? ⟨g, j * 5 + 3, none⟩ = some (.slice a3 l[j].args.length p3) ∧ w.cell? ⟨g, j * 5 + 4, none⟩ = some (.slice a4 l[j].out.length p4) ∧ w.frozen? ⟨g, j * 5 + 2, none⟩ = false ∧ Sk P w (.list 1 (In.dats l[j].params)) [.slice a0 l[j].params.length p0] ∧ Sk P w (.list 1 (In.dats l[j].code)) [.slice a1 l[j].code.length p1] ∧ Sk P w (.list 1 (In.dats l[j].args)) [.slice a3 l[j].args.length p3] ∧ Sk P w (.list 2 (Ed.dats l[j].out)) [.slice a4 l[j].out.length p4] := by
  obtain ⟨g, cap, cs, rfl, hp, hg, _, hc, hd⟩ := h.elem j (by rw [Bl.dats_len]; exact hj)
  rw [Bl.dats_at l j hj] at hd
  obtain ⟨a0, p0, a1, p1, y2, a3, p3, a4, p4, rfl, r0, r1, r3, r4⟩ := Bl.skView hd
  exact ⟨g, cap, a0, p0, a1, p1, y2, a3, p3, a4, p4, by rw [Bl.dats_len], hp, hg, (hc 0 _ rfl).1, (hc 1 _ rfl).1, (hc 2 _ rfl).1, (hc 3 _ rfl).1, (hc 4 _ rfl).1, (hc 2 _ rfl).2, r0, r1, r3, r4⟩
set_option maxHeartbeats 2000000 in
theorem markBls_sk {P : Nat → Prop} (v : Value) (l : List Bl) (k : Int) (w : World) (h : Sk P w (.list 5 (Bl.dats l)) [v]) (h0 : 0 ≤ k) (h1 : k + 16 * Bl.szs l ≤ 4611686018427387904) :
    Calls Try.prog 33 #[v, .int .i64 k] w (MkQ P w k (16 * Bl.szs l)) := by
  obtain ⟨a, cap, rfl, hl⟩ := h.lslice
  simp only [Bl.dats_len] at h hl ⊢
  have hpa := Bl.pre_all l
  go_enter Try.func33, Try.ntmps33
  go_wp2_with fail
  go_loopw [1, 5] (fun kk i wr => ∃ (j : Nat) (k' : Int), kk = .int .i64 k' ∧ i = .int .i64 (j : Int) ∧ j ≤ l.length ∧ k ≤ k' ∧ k' ≤ k + 16 * ((j + Bl.pre l j : Nat) : Int) ∧ Inks P w wr) (fun _ i _ => l.length - (intOf i).toNat)
  case atStart => exact ⟨0, k, rfl, rfl, Nat.zero_le _, Int.le_refl _, by rw [Bl.pre_zero]; simp, Inks.refl _ _⟩
  case round =>
    obtain ⟨j, k', rfl, rfl, hj, hk0, hk1, hw⟩ := hrel
    by_cases hlt : j < l.length
    · obtain ⟨g, cap', a0, p0, a1, p1, y2, a3, p3, a4, p4, e, hp, hg, c0, c1, c2, c3, c4, f2, r0, r1, r3, r4⟩ := Bl.skElem (h.slice_inks hw) j hlt
      cases e
      have i1 : (j : Int) < (l.length : Int) := by omega
      have hps := Bl.pre_succ hlt
      have hpl := Bl.pre_le l (j + 1) (by omega)
      rw [Bl.szEq] at hps
      have hZ : Hid (Bl.pre l (j + 1) = Bl.pre l j + (In.szs l[j].params + In.szs l[j].code + In.szs l[j].args + Ed.szs l[j].out)) := hps
      have hK1 : 0 ≤ k' := by omega
      have hK2 : k' ≤ 4611686018427387904 := by omega
      have hB : k' + 16 + 16 * (In.szs l[j].params + In.szs l[j].code + In.szs l[j].args + Ed.szs l[j].out : Nat) ≤ 4611686018427387904 := by omega
      clear h hps hpl hpa
      have I0 : Inks P wr wr := Inks.refl _ _
      go_wp2_with fail
      refine (markIns_sk _ _ _ _ (r0.slice_inks I0) (by omega) (by omega)).mono ?_
      rintro e w1 ⟨k1, rfl, u1, t1, J1⟩
      have I1 := I0.trans J1
      have hgw1 := Nat.lt_of_lt_of_le hg I1.size
      have c1_1 := I1.slice hg c1
      obtain ⟨y2_1, c2_1⟩ := I1.int hg c2
      have f2_1 := I1.fz hg f2
      have c3_1 := I1.slice hg c3
      have c4_1 := I1.slice hg c4
      go_wp2_with fail
      refine (markIns_sk _ _ _ _ (r1.slice_inks I1) (by omega) (by omega)).mono ?_
      rintro e w2 ⟨k2, rfl, u2, t2, J2⟩
      have I2 := I1.trans J2
      have hgw2 := Nat.lt_of_lt_of_le hg I2.size
      obtain ⟨y2_2, c2_2⟩ := I2.int hg c2
      have f2_2 := I2.fz hg f2
      have c3_2 := I2.slice hg c3
      have c4_2 := I2.slice hg c4
      have w2a : -9223372036854775808 ≤ k2 + 1 := by omega
      have w2b : k2 + 1 ≤ 9223372036854775807 := by omega
      have K2_0 : Inks P w2 w2 := Inks.refl _ _
      obtain ⟨x2, d2⟩ := K2_0.int hgw2 c2_2
      have K2_1 := K2_0.set hp (k2) d2
      have I2r2 := I2.trans K2_1
      clear d2
      go_wp2_with fail
      refine (markIns_sk _ _ _ _ (r3.slice_inks I2r2) (by omega) (by omega)).mono ?_
      rintro e w3 ⟨k3, rfl, u3, t3, J3⟩
      have I3 := I2r2.trans J3
      have hgw3 := Nat.lt_of_lt_of_le hg I3.size
      have c4_3 := I3.slice hg c4
      go_wp2_with fail
      refine (markEds_sk _ _ _ _ (r4.slice_inks I3) (by omega) (by omega)).mono ?_
      rintro e w4 ⟨k4, rfl, u4, t4, J4⟩
      have I4 := I3.trans J4
      have hgw4 := Nat.lt_of_lt_of_le hg I4.size
      have IE := hw.trans I4
      go_wp2_with fail
      go_roundw
      case rel => exact ⟨j + 1, k4, by first | rfl | go_num, by go_num, by omega, by omega, by rw [hZ.out]; omega, IE⟩
      case measure => simp [intOf]; omega
    · have i1 : ¬ (j : Int) < (l.length : Int) := by omega
      have i2 : decide ((j : Int) < (l.length : Int)) = false := decide_eq_false i1
      have hkk : j = l.length := by omega
      subst hkk
      clear h
      go_wp2_with fail
      go_ret
      exact ⟨_, rfl, by omega, by omega, hw⟩

theorem Fc.szEq (x : Fc) : x.sz = Tp.szs x.params + Va.szs x.vals + Bl.szs x.blocks := by obtain ⟨params, rk, rn, vals, blocks⟩ := x; rfl
theorem Fc.skView {P : Nat → Prop} {w : World} {x : Fc} {cs : List Value} (h : Sk P w x.dat cs) : ∃ a0 p0 y1 y2 a3 p3 a4 p4, cs = [.slice a0 x.params.length p0, .int .i64 y1, .int .i64 y2, .slice a3 x.vals.length p3, .slice a4 x.blocks.length p4] ∧ Sk P w (.list 2 (Tp.dats x.params)) [.slice a0 x.params.length p0] ∧ Sk P w (.list 5 (Va.dats x.vals)) [.slice a3 x.vals.length p3] ∧ Sk P w (.list 5 (Bl.dats x.blocks)) [.slice a4 x.blocks.length p4] := by
  obtain ⟨params, rk, rn, vals, blocks⟩ := x
  rw [Fc.dat, Sk] at h
  rw [SkAgg] at h
  obtain ⟨c0, d0, rfl, h0, h⟩ := h
  have e0 := h0
  rw [Sk] at e0
  obtain ⟨a0, p0, rfl, _⟩ := e0
  rw [Tp.dats_len] at h0
  rw [SkAgg] at h
  obtain ⟨c1, d1, rfl, h1, h⟩ := h
  rw [Sk] at h1
  obtain ⟨y1, rfl⟩ := h1
  rw [SkAgg] at h
  obtain ⟨c2, d2, rfl, h2, h⟩ := h
  rw [Sk] at h2
  obtain ⟨y2, rfl⟩ := h2
  rw [SkAgg] at h
  obtain ⟨c3, d3, rfl, h3, h⟩ := h
  have e3 := h3
  rw [Sk] at e3
  obtain ⟨a3, p3, rfl, _⟩ := e3
  rw [Va.dats_len] at h3
  rw [SkAgg] at h
  obtain ⟨c4, d4, rfl, h4, h⟩ := h
  have e4 := h4
  rw [Sk] at e4
  obtain ⟨a4, p4, rfl, _⟩ := e4
  rw [Bl.dats_len] at h4
  rw [SkAgg] at h
  subst h
  exact ⟨_, _, _, _, _, _, _, _, by simp only [Bl.dats_len, Tp.dats_len, Va.dats_len]; rfl, h0, h3, h4⟩
set_option maxHeartbeats 1000000 in
theorem markFc_sk {P : Nat → Prop} (x : Fc) (v0 v1 v2 : Value) (k : Int) (w : World) (h0 : Sk P w (.list 2 (Tp.dats x.params)) [v0]) (h1 : Sk P w (.list 5 (Va.dats x.vals)) [v1]) (h2 : Sk P w (.list 5 (Bl.dats x.blocks)) [v2]) (h0' : 0 ≤ k) (h1' : k + 16 * x.sz ≤ 4611686018427387904) :
    Calls Try.prog 10 #[.agg #[v0, .int .i64 x.rk, .int .i64 x.rn, v1, v2], .int .i64 k] w (MkQ P w k (16 * x.sz)) := by
  rw [Fc.szEq] at h1' ⊢
  obtain ⟨a0, p0, rfl, _⟩ := h0.lslice
  simp only [Tp.dats_len] at h0 ⊢
  obtain ⟨a1, p1, rfl, _⟩ := h1.lslice
  simp only [Va.dats_len] at h1 ⊢
  obtain ⟨a2, p2, rfl, _⟩ := h2.lslice
  simp only [Bl.dats_len] at h2 ⊢
  generalize x.rk = z_rk
  generalize x.rn = z_rn
  have I0 : Inks P w (w.alloc (.cells #[.slice a0 x.params.length p0, .int .i64 z_rk, .int .i64 z_rn, .slice a1 x.vals.length p1, .slice a2 x.blocks.length p2] 37)) := Inks.later (later1 _ _)
  go_enter Try.func10, Try.ntmps10
  go_wp2_with fail
  refine (markTps_sk _ _ _ _ (h0.slice_inks I0) (by omega) (by omega)).mono ?_
  rintro e w1 ⟨k1, rfl, u1, t1, J1⟩
  have I1 := I0.trans J1
  have b1_1 : w1.cell? ⟨w.heap.size, 3, none⟩ = some (.slice a1 x.vals.length p1) := J1.slice (by simp) (by simp)
  have b2_1 : w1.cell? ⟨w.heap.size, 4, none⟩ = some (.slice a2 x.blocks.length p2) := J1.slice (by simp) (by simp)
  go_wp2_with fail
  refine (markVas_sk _ _ _ _ (h1.slice_inks I1) (by omega) (by omega)).mono ?_
  rintro e w2 ⟨k2, rfl, u2, t2, J2⟩
  have I2 := I1.trans J2
  have b2_2 := J2.slice (by have := J1.size; simp at this; omega) b2_1
  go_wp2_with fail
  refine (markBls_sk _ _ _ _ (h2.slice_inks I2) (by omega) (by omega)).mono ?_
  rintro e w3 ⟨k3, rfl, u3, t3, J3⟩
  have I3 := I2.trans J3
  go_wp2_with fail
  go_ret
  exact ⟨_, rfl, by omega, by omega, I3⟩

end Go.Proofs.Ythammngddmkhhaa
