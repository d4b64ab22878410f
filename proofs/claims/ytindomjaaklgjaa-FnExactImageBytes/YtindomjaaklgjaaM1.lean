/- Marks over images that came in: by types. -/
import Derived.Test.YtindomjaaklgjaaT71
namespace Go.Proofs.Ytindomjaaklgjaa
open Go.RowKit

theorem In.skElem {P : Nat → Prop} {w : World} {l : List In} {v : Value} (h : Sk P w (.list 1 (In.dats l)) [v]) (j : Nat) (hj : j < l.length) : ∃ g cap y0, v = .slice (some ⟨g, 0, none⟩) l.length cap ∧ P g ∧ g < w.heap.size ∧ w.cell? ⟨g, j, none⟩ = some (.int .i64 y0) ∧ w.frozen? ⟨g, j, none⟩ = false := by
  obtain ⟨g, cap, cs, rfl, hp, hg, _, hc, hd⟩ := h.elem j (by rw [In.dats_len]; exact hj)
  have e : (In.dats l)[j]'(by rw [In.dats_len]; exact hj) = .int l[j] := List.getElem_map ..
  rw [e, Sk] at hd
  obtain ⟨z, rfl⟩ := hd
  have := hc 0 _ rfl
  rw [Nat.mul_one, Nat.add_zero] at this
  exact ⟨g, cap, z, by rw [In.dats_len], hp, hg, this.1, this.2⟩
set_option maxHeartbeats 2000000 in
theorem markIns_sk {P : Nat → Prop} (v : Value) (l : List In) (k : Int) (w : World) (h : Sk P w (.list 1 (In.dats l)) [v]) (h0 : 0 ≤ k) (h1 : k + 16 * In.szs l ≤ 4611686018427387904) :
    Calls Try.prog 85 #[v, .int .i64 k] w (MkQ P w k (16 * In.szs l)) := by
  unfold In.szs at *
  obtain ⟨a, cap, rfl, hl⟩ := h.lslice
  simp only [In.dats_len] at h hl ⊢
  go_enter Try.func85, Try.ntmps85
  go_wp2_with fail
  go_loopw [1, 5] (fun kk i wr => ∃ j : Nat, kk = .int .i64 (k + j) ∧ i = .int .i64 (j : Int) ∧ j ≤ l.length ∧ Inks P w wr) (fun _ i _ => l.length - (intOf i).toNat)
  case atStart => exact ⟨0, by simp, rfl, Nat.zero_le _, Inks.refl _ _⟩
  case round =>
    obtain ⟨j, rfl, rfl, hj, hw⟩ := hrel
    by_cases hlt : j < l.length
    · obtain ⟨g, cap', y0, e, hp, hg, hz, hf⟩ := In.skElem (h.slice_inks hw) j hlt
      cases e
      have hi : (j : Int) < (l.length : Int) := by omega
      have hb1 : 0 ≤ k + j := by omega
      have hb2 : k + j ≤ 4611686018427387904 := by omega
      have hst := hw.set hp (k + j) hz
      clear hw h
      go_wp2_with fail
      go_roundw
      case rel => exact ⟨j + 1, by go_num, by go_num, by omega, hst⟩
      case measure => simp [intOf]; omega
    · have hlt' : decide ((j : Int) < (l.length : Int)) = false := by simp; omega
      have hjn : j = l.length := by omega
      subst hjn
      clear h
      go_wp2_with fail
      go_ret
      exact ⟨_, rfl, by omega, by omega, hw⟩
theorem Bo.skElem {P : Nat → Prop} {w : World} {l : List Bo} {v : Value} (h : Sk P w (.list 1 (Bo.dats l)) [v]) (j : Nat) (hj : j < l.length) : ∃ g cap y0, v = .slice (some ⟨g, 0, none⟩) l.length cap ∧ P g ∧ g < w.heap.size ∧ w.cell? ⟨g, j, none⟩ = some (.bool y0) ∧ w.frozen? ⟨g, j, none⟩ = false := by
  obtain ⟨g, cap, cs, rfl, hp, hg, _, hc, hd⟩ := h.elem j (by rw [Bo.dats_len]; exact hj)
  have e : (Bo.dats l)[j]'(by rw [Bo.dats_len]; exact hj) = .bool l[j] := List.getElem_map ..
  rw [e, Sk] at hd
  obtain ⟨z, rfl⟩ := hd
  have := hc 0 _ rfl
  rw [Nat.mul_one, Nat.add_zero] at this
  exact ⟨g, cap, z, by rw [Bo.dats_len], hp, hg, this.1, this.2⟩
set_option maxHeartbeats 2000000 in
theorem markBos_sk {P : Nat → Prop} (v : Value) (l : List Bo) (k : Int) (w : World) (h : Sk P w (.list 1 (Bo.dats l)) [v]) (h0 : 0 ≤ k) (h1 : k + 16 * Bo.szs l ≤ 4611686018427387904) :
    Calls Try.prog 60 #[v, .int .i64 k] w (MkQ P w k (16 * Bo.szs l)) := by
  unfold Bo.szs at *
  obtain ⟨a, cap, rfl, hl⟩ := h.lslice
  simp only [Bo.dats_len] at h hl ⊢
  go_enter Try.func60, Try.ntmps60
  go_wp2_with fail
  go_loopw [1, 5] (fun kk i wr => ∃ j : Nat, kk = .int .i64 (k + j) ∧ i = .int .i64 (j : Int) ∧ j ≤ l.length ∧ Inks P w wr) (fun _ i _ => l.length - (intOf i).toNat)
  case atStart => exact ⟨0, by simp, rfl, Nat.zero_le _, Inks.refl _ _⟩
  case round =>
    obtain ⟨j, rfl, rfl, hj, hw⟩ := hrel
    by_cases hlt : j < l.length
    · obtain ⟨g, cap', y0, e, hp, hg, hz, hf⟩ := Bo.skElem (h.slice_inks hw) j hlt
      cases e
      have hi : (j : Int) < (l.length : Int) := by omega
      have hb1 : 0 ≤ k + j := by omega
      have hb2 : k + j ≤ 4611686018427387904 := by omega
      have hst := hw.setb hp ((k + j) % 3 == 0) hz
      clear hw h
      go_wp2_with fail
      go_roundw
      case rel => exact ⟨j + 1, by go_num, by go_num, by omega, hst⟩
      case measure => simp [intOf]; omega
    · have hlt' : decide ((j : Int) < (l.length : Int)) = false := by simp; omega
      have hjn : j = l.length := by omega
      subst hjn
      clear h
      go_wp2_with fail
      go_ret
      exact ⟨_, rfl, by omega, by omega, hw⟩
theorem Is.skElem {P : Nat → Prop} {w : World} {l : List Is} {v : Value} (h : Sk P w (.list 5 (Is.dats l)) [v]) (j : Nat) (hj : j < l.length) : ∃ g cap y0 y1 y2 y3 y4, v = .slice (some ⟨g, 0, none⟩) l.length cap ∧ P g ∧ g < w.heap.size ∧ w.cell? ⟨g, j * 5, none⟩ = some (.int .i64 y0) ∧ w.cell? ⟨g, j * 5 + 1, none⟩ = some (.int .i64 y1) ∧ w.cell? ⟨g, j * 5 + 2, none⟩ = some (.int .i64 y2) ∧ w.cell? ⟨g, j * 5 + 3, none⟩ = some (.int .i64 y3) ∧ w.cell? ⟨g, j * 5 + 4, none⟩ = some (.int .i64 y4) ∧ w.frozen? ⟨g, j * 5, none⟩ = false ∧ w.frozen? ⟨g, j * 5 + 1, none⟩ = false ∧ w.frozen? ⟨g, j * 5 + 2, none⟩ = false ∧ w.frozen? ⟨g, j * 5 + 3, none⟩ = false ∧ w.frozen? ⟨g, j * 5 + 4, none⟩ = false := by
  obtain ⟨g, cap, cs, rfl, hp, hg, _, hc, hd⟩ := h.elem j (by rw [Is.dats_len]; exact hj)
  have e : (Is.dats l)[j]'(by rw [Is.dats_len]; exact hj) = Is.dat l[j] := List.getElem_map ..
  rw [e, Is.dat, Sk] at hd
  rw [SkAgg] at hd
  obtain ⟨c0, d0, rfl, h0, hd⟩ := hd
  rw [Sk] at h0
  obtain ⟨y0, rfl⟩ := h0
  rw [SkAgg] at hd
  obtain ⟨c1, d1, rfl, h1, hd⟩ := hd
  rw [Sk] at h1
  obtain ⟨y1, rfl⟩ := h1
  rw [SkAgg] at hd
  obtain ⟨c2, d2, rfl, h2, hd⟩ := hd
  rw [Sk] at h2
  obtain ⟨y2, rfl⟩ := h2
  rw [SkAgg] at hd
  obtain ⟨c3, d3, rfl, h3, hd⟩ := hd
  rw [Sk] at h3
  obtain ⟨y3, rfl⟩ := h3
  rw [SkAgg] at hd
  obtain ⟨c4, d4, rfl, h4, hd⟩ := hd
  rw [Sk] at h4
  obtain ⟨y4, rfl⟩ := h4
  rw [SkAgg] at hd
  subst hd
  exact ⟨g, cap, y0, y1, y2, y3, y4, by rw [Is.dats_len], hp, hg, (hc 0 _ rfl).1, (hc 1 _ rfl).1, (hc 2 _ rfl).1, (hc 3 _ rfl).1, (hc 4 _ rfl).1, (hc 0 _ rfl).2, (hc 1 _ rfl).2, (hc 2 _ rfl).2, (hc 3 _ rfl).2, (hc 4 _ rfl).2⟩
set_option maxHeartbeats 4000000 in
theorem markIss_sk {P : Nat → Prop} (v : Value) (l : List Is) (k : Int) (w : World) (h : Sk P w (.list 5 (Is.dats l)) [v]) (h0 : 0 ≤ k) (h1 : k + 16 * Is.szs l ≤ 4611686018427387904) :
    Calls Try.prog 61 #[v, .int .i64 k] w (MkQ P w k (16 * Is.szs l)) := by
  unfold Is.szs at *
  obtain ⟨a, cap, rfl, hl⟩ := h.lslice
  simp only [Is.dats_len] at h hl ⊢
  go_enter Try.func61, Try.ntmps61
  go_wp2_with fail
  go_loopw [1, 5] (fun kk i wr => ∃ (j : Nat) (k' : Int), kk = .int .i64 k' ∧ i = .int .i64 (j : Int) ∧ j ≤ l.length ∧ k' = k + 5 * (j : Int) ∧ Inks P w wr) (fun _ i _ => l.length - (intOf i).toNat)
  case atStart => exact ⟨0, k, rfl, rfl, Nat.zero_le _, by simp, Inks.refl _ _⟩
  case round =>
    obtain ⟨j, k', rfl, rfl, hj, hkk, hw⟩ := hrel
    by_cases hlt : j < l.length
    · obtain ⟨g, cap', y0, y1, y2, y3, y4, e, hp, hg, c0, c1, c2, c3, c4, f0, f1, f2, f3, f4⟩ := Is.skElem (h.slice_inks hw) j hlt
      cases e
      have hi : (j : Int) < (l.length : Int) := by omega
      have hb1 : 0 ≤ k' := by omega
      have hb2 : k' + 5 ≤ 4611686018427387904 := by omega
      have K0 : Inks P wr wr := Inks.refl _ _
      obtain ⟨x0, d0⟩ := K0.int hg c0
      have K1 := K0.set hp (k') d0
      have w0a : -9223372036854775808 ≤ k' + 1 := by omega
      have w0b : k' + 1 ≤ 9223372036854775807 := by omega
      obtain ⟨x1, d1⟩ := K1.int hg c1
      have K2 := K1.set hp (k' + 1) d1
      have w1a : -9223372036854775808 ≤ k' + 1 + 1 := by omega
      have w1b : k' + 1 + 1 ≤ 9223372036854775807 := by omega
      obtain ⟨x2, d2⟩ := K2.int hg c2
      have K3 := K2.set hp (k' + 1 + 1) d2
      have w2a : -9223372036854775808 ≤ k' + 1 + 1 + 1 := by omega
      have w2b : k' + 1 + 1 + 1 ≤ 9223372036854775807 := by omega
      obtain ⟨x3, d3⟩ := K3.int hg c3
      have K4 := K3.set hp (k' + 1 + 1 + 1) d3
      have w3a : -9223372036854775808 ≤ k' + 1 + 1 + 1 + 1 := by omega
      have w3b : k' + 1 + 1 + 1 + 1 ≤ 9223372036854775807 := by omega
      obtain ⟨x4, d4⟩ := K4.int hg c4
      have K5 := K4.set hp (k' + 1 + 1 + 1 + 1) d4
      have w4a : -9223372036854775808 ≤ k' + 1 + 1 + 1 + 1 + 1 := by omega
      have w4b : k' + 1 + 1 + 1 + 1 + 1 ≤ 9223372036854775807 := by omega
      have hst := hw.trans K5
      have HK : Hid (k' = k + 5 * (j : Int)) := hkk
      clear hkk hw h d0 d1 d2 d3 d4 K0 K1 K2 K3 K4 K5
      go_wp2_with fail
      go_roundw
      case rel => exact ⟨j + 1, k' + 1 + 1 + 1 + 1 + 1, by first | rfl | go_num, by go_num, by omega, by have := HK.out; omega, hst⟩
      case measure => simp [intOf]; omega
    · have hlt' : decide ((j : Int) < (l.length : Int)) = false := by simp; omega
      have hjn : j = l.length := by omega
      subst hjn
      clear h
      go_wp2_with fail
      go_ret
      exact ⟨_, rfl, by omega, by omega, hw⟩
theorem Bs.szEq (x : Bs) : x.sz = Bo.szs x.l := by obtain ⟨l⟩ := x; rfl
theorem Bs.skView {P : Nat → Prop} {w : World} {x : Bs} {cs : List Value} (h : Sk P w x.dat cs) : ∃ a0 p0, cs = [.slice a0 x.l.length p0] ∧ Sk P w (.list 1 (Bo.dats x.l)) [.slice a0 x.l.length p0] := by
  obtain ⟨l⟩ := x
  rw [Bs.dat, Sk] at h
  rw [SkAgg] at h
  obtain ⟨c0, d0, rfl, h0, h⟩ := h
  have e0 := h0
  rw [Sk] at e0
  obtain ⟨a0, p0, rfl, _⟩ := e0
  rw [Bo.dats_len] at h0
  rw [SkAgg] at h
  subst h
  exact ⟨_, _, by simp only [Bo.dats_len]; rfl, h0⟩
theorem Bs.skElem {P : Nat → Prop} {w : World} {l : List Bs} {v : Value} (h : Sk P w (.list 1 (Bs.dats l)) [v]) (j : Nat) (hj : j < l.length) : ∃ g cap a0 p0, v = .slice (some ⟨g, 0, none⟩) l.length cap ∧ P g ∧ g < w.heap.size ∧ w.cell? ⟨g, j, none⟩ = some (.slice a0 l[j].l.length p0) ∧ Sk P w (.list 1 (Bo.dats l[j].l)) [.slice a0 l[j].l.length p0] := by
  obtain ⟨g, cap, cs, rfl, hp, hg, _, hc, hd⟩ := h.elem j (by rw [Bs.dats_len]; exact hj)
  rw [Bs.dats_at l j hj] at hd
  obtain ⟨a0, p0, rfl, r0⟩ := Bs.skView hd
  exact ⟨g, cap, a0, p0, by rw [Bs.dats_len], hp, hg, by have := (hc 0 _ rfl).1; rwa [Nat.mul_one, Nat.add_zero] at this, r0⟩
set_option maxHeartbeats 2000000 in
theorem markBss_sk {P : Nat → Prop} (v : Value) (l : List Bs) (k : Int) (w : World) (h : Sk P w (.list 1 (Bs.dats l)) [v]) (h0 : 0 ≤ k) (h1 : k + 16 * Bs.szs l ≤ 4611686018427387904) :
    Calls Try.prog 36 #[v, .int .i64 k] w (MkQ P w k (16 * Bs.szs l)) := by
  obtain ⟨a, cap, rfl, hl⟩ := h.lslice
  simp only [Bs.dats_len] at h hl ⊢
  have hpa := Bs.pre_all l
  go_enter Try.func36, Try.ntmps36
  go_wp2_with fail
  go_loopw [1, 5] (fun kk i wr => ∃ (j : Nat) (k' : Int), kk = .int .i64 k' ∧ i = .int .i64 (j : Int) ∧ j ≤ l.length ∧ k ≤ k' ∧ k' ≤ k + 16 * ((j + Bs.pre l j : Nat) : Int) ∧ Inks P w wr) (fun _ i _ => l.length - (intOf i).toNat)
  case atStart => exact ⟨0, k, rfl, rfl, Nat.zero_le _, Int.le_refl _, by rw [Bs.pre_zero]; simp, Inks.refl _ _⟩
  case round =>
    obtain ⟨j, k', rfl, rfl, hj, hk0, hk1, hw⟩ := hrel
    by_cases hlt : j < l.length
    · obtain ⟨g, cap', a0, p0, e, hp, hg, c0, r0⟩ := Bs.skElem (h.slice_inks hw) j hlt
      cases e
      have i1 : (j : Int) < (l.length : Int) := by omega
      have hps := Bs.pre_succ hlt
      have hpl := Bs.pre_le l (j + 1) (by omega)
      rw [Bs.szEq] at hps
      have hZ : Hid (Bs.pre l (j + 1) = Bs.pre l j + (Bo.szs l[j].l)) := hps
      have hK1 : 0 ≤ k' := by omega
      have hK2 : k' ≤ 4611686018427387904 := by omega
      have hB : k' + 16 + 16 * (Bo.szs l[j].l : Nat) ≤ 4611686018427387904 := by omega
      clear h hps hpl hpa
      have I0 : Inks P wr wr := Inks.refl _ _
      go_wp2_with fail
      refine (markBos_sk _ _ _ _ (r0.slice_inks I0) (by omega) (by omega)).mono ?_
      rintro e w1 ⟨k1, rfl, u1, t1, J1⟩
      have I1 := I0.trans J1
      have hgw1 := Nat.lt_of_lt_of_le hg I1.size
      have IE := hw.trans I1
      go_wp2_with fail
      go_roundw
      case rel => exact ⟨j + 1, k1, by first | rfl | go_num, by go_num, by omega, by omega, by rw [hZ.out]; omega, IE⟩
      case measure => simp [intOf]; omega
    · have i1 : ¬ (j : Int) < (l.length : Int) := by omega
      have i2 : decide ((j : Int) < (l.length : Int)) = false := decide_eq_false i1
      have hkk : j = l.length := by omega
      subst hkk
      clear h
      go_wp2_with fail
      go_ret
      exact ⟨_, rfl, by omega, by omega, hw⟩

theorem Ma.szEq (x : Ma) : x.sz = In.szs x.slots := by obtain ⟨pc, slots⟩ := x; rfl
theorem Ma.skView {P : Nat → Prop} {w : World} {x : Ma} {cs : List Value} (h : Sk P w x.dat cs) : ∃ y0 a1 p1, cs = [.int .i64 y0, .slice a1 x.slots.length p1] ∧ Sk P w (.list 1 (In.dats x.slots)) [.slice a1 x.slots.length p1] := by
  obtain ⟨pc, slots⟩ := x
  rw [Ma.dat, Sk] at h
  rw [SkAgg] at h
  obtain ⟨c0, d0, rfl, h0, h⟩ := h
  rw [Sk] at h0
  obtain ⟨y0, rfl⟩ := h0
  rw [SkAgg] at h
  obtain ⟨c1, d1, rfl, h1, h⟩ := h
  have e1 := h1
  rw [Sk] at e1
  obtain ⟨a1, p1, rfl, _⟩ := e1
  rw [In.dats_len] at h1
  rw [SkAgg] at h
  subst h
  exact ⟨_, _, _, by simp only [In.dats_len]; rfl, h1⟩
theorem Ma.skElem {P : Nat → Prop} {w : World} {l : List Ma} {v : Value} (h : Sk P w (.list 2 (Ma.dats l)) [v]) (j : Nat) (hj : j < l.length) : ∃ g cap y0 a1 p1, v = .slice (some ⟨g, 0, none⟩) l.length cap ∧ P g ∧ g < w.heap.size ∧ w.cell? ⟨g, j * 2, none⟩ = some (.int .i64 y0) ∧ w.cell? ⟨g, j * 2 + 1, none⟩ = some (.slice a1 l[j].slots.length p1) ∧ w.frozen? ⟨g, j * 2, none⟩ = false ∧ Sk P w (.list 1 (In.dats l[j].slots)) [.slice a1 l[j].slots.length p1] := by
  obtain ⟨g, cap, cs, rfl, hp, hg, _, hc, hd⟩ := h.elem j (by rw [Ma.dats_len]; exact hj)
  rw [Ma.dats_at l j hj] at hd
  obtain ⟨y0, a1, p1, rfl, r1⟩ := Ma.skView hd
  exact ⟨g, cap, y0, a1, p1, by rw [Ma.dats_len], hp, hg, (hc 0 _ rfl).1, (hc 1 _ rfl).1, (hc 0 _ rfl).2, r1⟩
set_option maxHeartbeats 2000000 in
theorem markMas_sk {P : Nat → Prop} (v : Value) (l : List Ma) (k : Int) (w : World) (h : Sk P w (.list 2 (Ma.dats l)) [v]) (h0 : 0 ≤ k) (h1 : k + 16 * Ma.szs l ≤ 4611686018427387904) :
    Calls Try.prog 62 #[v, .int .i64 k] w (MkQ P w k (16 * Ma.szs l)) := by
  obtain ⟨a, cap, rfl, hl⟩ := h.lslice
  simp only [Ma.dats_len] at h hl ⊢
  have hpa := Ma.pre_all l
  go_enter Try.func62, Try.ntmps62
  go_wp2_with fail
  go_loopw [1, 5] (fun kk i wr => ∃ (j : Nat) (k' : Int), kk = .int .i64 k' ∧ i = .int .i64 (j : Int) ∧ j ≤ l.length ∧ k ≤ k' ∧ k' ≤ k + 16 * ((j + Ma.pre l j : Nat) : Int) ∧ Inks P w wr) (fun _ i _ => l.length - (intOf i).toNat)
  case atStart => exact ⟨0, k, rfl, rfl, Nat.zero_le _, Int.le_refl _, by rw [Ma.pre_zero]; simp, Inks.refl _ _⟩
  case round =>
    obtain ⟨j, k', rfl, rfl, hj, hk0, hk1, hw⟩ := hrel
    by_cases hlt : j < l.length
    · obtain ⟨g, cap', y0, a1, p1, e, hp, hg, c0, c1, f0, r1⟩ := Ma.skElem (h.slice_inks hw) j hlt
      cases e
      have i1 : (j : Int) < (l.length : Int) := by omega
      have hps := Ma.pre_succ hlt
      have hpl := Ma.pre_le l (j + 1) (by omega)
      rw [Ma.szEq] at hps
      have hZ : Hid (Ma.pre l (j + 1) = Ma.pre l j + (In.szs l[j].slots)) := hps
      have hK1 : 0 ≤ k' := by omega
      have hK2 : k' ≤ 4611686018427387904 := by omega
      have hB : k' + 16 + 16 * (In.szs l[j].slots : Nat) ≤ 4611686018427387904 := by omega
      clear h hps hpl hpa
      have I0 : Inks P wr wr := Inks.refl _ _
      have w0a : -9223372036854775808 ≤ k' + 1 := by omega
      have w0b : k' + 1 ≤ 9223372036854775807 := by omega
      have K0_0 : Inks P wr wr := Inks.refl _ _
      obtain ⟨x0, d0⟩ := K0_0.int hg c0
      have K0_1 := K0_0.set hp (k') d0
      have I0r0 := I0.trans K0_1
      clear d0
      go_wp2_with fail
      refine (markIns_sk _ _ _ _ (r1.slice_inks I0r0) (by omega) (by omega)).mono ?_
      rintro e w1 ⟨k1, rfl, u1, t1, J1⟩
      have I1 := I0r0.trans J1
      have hgw1 := Nat.lt_of_lt_of_le hg I1.size
      have IE := hw.trans I1
      go_wp2_with fail
      go_roundw
      case rel => exact ⟨j + 1, k1, by first | rfl | go_num, by go_num, by omega, by omega, by rw [hZ.out]; omega, IE⟩
      case measure => simp [intOf]; omega
    · have i1 : ¬ (j : Int) < (l.length : Int) := by omega
      have i2 : decide ((j : Int) < (l.length : Int)) = false := decide_eq_false i1
      have hkk : j = l.length := by omega
      subst hkk
      clear h
      go_wp2_with fail
      go_ret
      exact ⟨_, rfl, by omega, by omega, hw⟩

theorem Cd.szEq (x : Cd) : x.sz = Is.szs x.ins + Ma.szs x.maps := by obtain ⟨frame, params, ins, maps⟩ := x; rfl
theorem Cd.skView {P : Nat → Prop} {w : World} {x : Cd} {cs : List Value} (h : Sk P w x.dat cs) : ∃ y0 y1 a2 p2 a3 p3, cs = [.int .i64 y0, .int .i64 y1, .slice a2 x.ins.length p2, .slice a3 x.maps.length p3] ∧ Sk P w (.list 5 (Is.dats x.ins)) [.slice a2 x.ins.length p2] ∧ Sk P w (.list 2 (Ma.dats x.maps)) [.slice a3 x.maps.length p3] := by
  obtain ⟨frame, params, ins, maps⟩ := x
  rw [Cd.dat, Sk] at h
  rw [SkAgg] at h
  obtain ⟨c0, d0, rfl, h0, h⟩ := h
  rw [Sk] at h0
  obtain ⟨y0, rfl⟩ := h0
  rw [SkAgg] at h
  obtain ⟨c1, d1, rfl, h1, h⟩ := h
  rw [Sk] at h1
  obtain ⟨y1, rfl⟩ := h1
  rw [SkAgg] at h
  obtain ⟨c2, d2, rfl, h2, h⟩ := h
  have e2 := h2
  rw [Sk] at e2
  obtain ⟨a2, p2, rfl, _⟩ := e2
  rw [Is.dats_len] at h2
  rw [SkAgg] at h
  obtain ⟨c3, d3, rfl, h3, h⟩ := h
  have e3 := h3
  rw [Sk] at e3
  obtain ⟨a3, p3, rfl, _⟩ := e3
  rw [Ma.dats_len] at h3
  rw [SkAgg] at h
  subst h
  exact ⟨_, _, _, _, _, _, by simp only [Is.dats_len, Ma.dats_len]; rfl, h2, h3⟩
theorem Cd.skElem {P : Nat → Prop} {w : World} {l : List Cd} {v : Value} (h : Sk P w (.list 4 (Cd.dats l)) [v]) (j : Nat) (hj : j < l.length) : ∃ g cap y0 y1 a2 p2 a3 p3, v = .slice (some ⟨g, 0, none⟩) l.length cap ∧ P g ∧ g < w.heap.size ∧ w.cell? ⟨g, j * 4, none⟩ = some (.int .i64 y0) ∧ w.cell? ⟨g, j * 4 + 1, none⟩ = some (.int .i64 y1) ∧ w.cell? ⟨g, j * 4 + 2, none⟩ = some (.slice a2 l[j].ins.length p2) ∧ w.cell? ⟨g, j * 4 + 3, none⟩ = some (.slice a3 l[j].maps.length p3) ∧ w.frozen? ⟨g, j * 4, none⟩ = false ∧ w.frozen? ⟨g, j * 4 + 1, none⟩ = false ∧ Sk P w (.list 5 (Is.dats l[j].ins)) [.slice a2 l[j].ins.length p2] ∧ Sk P w (.list 2 (Ma.dats l[j].maps)) [.slice a3 l[j].maps.length p3] := by
  obtain ⟨g, cap, cs, rfl, hp, hg, _, hc, hd⟩ := h.elem j (by rw [Cd.dats_len]; exact hj)
  rw [Cd.dats_at l j hj] at hd
  obtain ⟨y0, y1, a2, p2, a3, p3, rfl, r2, r3⟩ := Cd.skView hd
  exact ⟨g, cap, y0, y1, a2, p2, a3, p3, by rw [Cd.dats_len], hp, hg, (hc 0 _ rfl).1, (hc 1 _ rfl).1, (hc 2 _ rfl).1, (hc 3 _ rfl).1, (hc 0 _ rfl).2, (hc 1 _ rfl).2, r2, r3⟩
set_option maxHeartbeats 2000000 in
theorem markCds_sk {P : Nat → Prop} (v : Value) (l : List Cd) (k : Int) (w : World) (h : Sk P w (.list 4 (Cd.dats l)) [v]) (h0 : 0 ≤ k) (h1 : k + 16 * Cd.szs l ≤ 4611686018427387904) :
    Calls Try.prog 37 #[v, .int .i64 k] w (MkQ P w k (16 * Cd.szs l)) := by
  obtain ⟨a, cap, rfl, hl⟩ := h.lslice
  simp only [Cd.dats_len] at h hl ⊢
  have hpa := Cd.pre_all l
  go_enter Try.func37, Try.ntmps37
  go_wp2_with fail
  go_loopw [1, 5] (fun kk i wr => ∃ (j : Nat) (k' : Int), kk = .int .i64 k' ∧ i = .int .i64 (j : Int) ∧ j ≤ l.length ∧ k ≤ k' ∧ k' ≤ k + 16 * ((j + Cd.pre l j : Nat) : Int) ∧ Inks P w wr) (fun _ i _ => l.length - (intOf i).toNat)
  case atStart => exact ⟨0, k, rfl, rfl, Nat.zero_le _, Int.le_refl _, by rw [Cd.pre_zero]; simp, Inks.refl _ _⟩
  case round =>
    obtain ⟨j, k', rfl, rfl, hj, hk0, hk1, hw⟩ := hrel
    by_cases hlt : j < l.length
    · obtain ⟨g, cap', y0, y1, a2, p2, a3, p3, e, hp, hg, c0, c1, c2, c3, f0, f1, r2, r3⟩ := Cd.skElem (h.slice_inks hw) j hlt
      cases e
      have i1 : (j : Int) < (l.length : Int) := by omega
      have hps := Cd.pre_succ hlt
      have hpl := Cd.pre_le l (j + 1) (by omega)
      rw [Cd.szEq] at hps
      have hZ : Hid (Cd.pre l (j + 1) = Cd.pre l j + (Is.szs l[j].ins + Ma.szs l[j].maps)) := hps
      have hK1 : 0 ≤ k' := by omega
      have hK2 : k' ≤ 4611686018427387904 := by omega
      have hB : k' + 16 + 16 * (Is.szs l[j].ins + Ma.szs l[j].maps : Nat) ≤ 4611686018427387904 := by omega
      clear h hps hpl hpa
      have I0 : Inks P wr wr := Inks.refl _ _
      have w0a : -9223372036854775808 ≤ k' + 1 := by omega
      have w0b : k' + 1 ≤ 9223372036854775807 := by omega
      have w1a : -9223372036854775808 ≤ k' + 1 + 1 := by omega
      have w1b : k' + 1 + 1 ≤ 9223372036854775807 := by omega
      have K0_0 : Inks P wr wr := Inks.refl _ _
      obtain ⟨x0, d0⟩ := K0_0.int hg c0
      have K0_1 := K0_0.set hp (k') d0
      obtain ⟨x1, d1⟩ := K0_1.int hg c1
      have K0_2 := K0_1.set hp (k' + 1) d1
      have I0r0 := I0.trans K0_2
      clear d0
      clear d1
      go_wp2_with fail
      refine (markIss_sk _ _ _ _ (r2.slice_inks I0r0) (by omega) (by omega)).mono ?_
      rintro e w1 ⟨k1, rfl, u1, t1, J1⟩
      have I1 := I0r0.trans J1
      have hgw1 := Nat.lt_of_lt_of_le hg I1.size
      have c3_1 := I1.slice hg c3
      go_wp2_with fail
      refine (markMas_sk _ _ _ _ (r3.slice_inks I1) (by omega) (by omega)).mono ?_
      rintro e w2 ⟨k2, rfl, u2, t2, J2⟩
      have I2 := I1.trans J2
      have hgw2 := Nat.lt_of_lt_of_le hg I2.size
      have IE := hw.trans I2
      go_wp2_with fail
      go_roundw
      case rel => exact ⟨j + 1, k2, by first | rfl | go_num, by go_num, by omega, by omega, by rw [hZ.out]; omega, IE⟩
      case measure => simp [intOf]; omega
    · have i1 : ¬ (j : Int) < (l.length : Int) := by omega
      have i2 : decide ((j : Int) < (l.length : Int)) = false := decide_eq_false i1
      have hkk : j = l.length := by omega
      subst hkk
      clear h
      go_wp2_with fail
      go_ret
      exact ⟨_, rfl, by omega, by omega, hw⟩

theorem Im.szEq (x : Im) : x.sz = Bs.szs x.structs + Cd.szs x.codes := by obtain ⟨structs, codes, main⟩ := x; rfl
theorem Im.skView {P : Nat → Prop} {w : World} {x : Im} {cs : List Value} (h : Sk P w x.dat cs) : ∃ a0 p0 a1 p1 y2, cs = [.slice a0 x.structs.length p0, .slice a1 x.codes.length p1, .int .i64 y2] ∧ Sk P w (.list 1 (Bs.dats x.structs)) [.slice a0 x.structs.length p0] ∧ Sk P w (.list 4 (Cd.dats x.codes)) [.slice a1 x.codes.length p1] := by
  obtain ⟨structs, codes, main⟩ := x
  rw [Im.dat, Sk] at h
  rw [SkAgg] at h
  obtain ⟨c0, d0, rfl, h0, h⟩ := h
  have e0 := h0
  rw [Sk] at e0
  obtain ⟨a0, p0, rfl, _⟩ := e0
  rw [Bs.dats_len] at h0
  rw [SkAgg] at h
  obtain ⟨c1, d1, rfl, h1, h⟩ := h
  have e1 := h1
  rw [Sk] at e1
  obtain ⟨a1, p1, rfl, _⟩ := e1
  rw [Cd.dats_len] at h1
  rw [SkAgg] at h
  obtain ⟨c2, d2, rfl, h2, h⟩ := h
  rw [Sk] at h2
  obtain ⟨y2, rfl⟩ := h2
  rw [SkAgg] at h
  subst h
  exact ⟨_, _, _, _, _, by simp only [Bs.dats_len, Cd.dats_len]; rfl, h0, h1⟩
set_option maxHeartbeats 1000000 in
theorem markIm_sk {P : Nat → Prop} (x : Im) (v0 v1 : Value) (k : Int) (w : World) (h0 : Sk P w (.list 1 (Bs.dats x.structs)) [v0]) (h1 : Sk P w (.list 4 (Cd.dats x.codes)) [v1]) (h0' : 0 ≤ k) (h1' : k + 16 * x.sz ≤ 4611686018427387904) :
    Calls Try.prog 14 #[.agg #[v0, v1, .int .i64 x.main], .int .i64 k] w (MkQ P w k (16 * x.sz)) := by
  rw [Im.szEq] at h1' ⊢
  obtain ⟨a0, p0, rfl, _⟩ := h0.lslice
  simp only [Bs.dats_len] at h0 ⊢
  obtain ⟨a1, p1, rfl, _⟩ := h1.lslice
  simp only [Cd.dats_len] at h1 ⊢
  generalize x.main = z_main
  have I0 : Inks P w (w.alloc (.cells #[.slice a0 x.structs.length p0, .slice a1 x.codes.length p1, .int .i64 z_main] 30)) := Inks.later (later1 _ _)
  go_enter Try.func14, Try.ntmps14
  go_wp2_with fail
  refine (markBss_sk _ _ _ _ (h0.slice_inks I0) (by omega) (by omega)).mono ?_
  rintro e w1 ⟨k1, rfl, u1, t1, J1⟩
  have I1 := I0.trans J1
  have b1_1 : w1.cell? ⟨w.heap.size, 1, none⟩ = some (.slice a1 x.codes.length p1) := J1.slice (by simp) (by simp)
  go_wp2_with fail
  refine (markCds_sk _ _ _ _ (h1.slice_inks I1) (by omega) (by omega)).mono ?_
  rintro e w2 ⟨k2, rfl, u2, t2, J2⟩
  have I2 := I1.trans J2
  go_wp2_with fail
  go_ret
  exact ⟨_, rfl, by omega, by omega, I2⟩

end Go.Proofs.Ytindomjaaklgjaa
