/- The model's l11one. -/
import Derived.Test.YtlfkjjnhlkaipaaW2m
import Derived.Deep.Cut
namespace Go.Proofs.Ytlfkjjnhlkaipaa
open Go.RowKit Go.Lib Go.Maps

def MoP (B : Nat) (zs : List Int) (g off cap : Nat) (C : Nat) (w : World) (r : Is × RS) (e : Ending) (w' : World) : Prop := ∃ z0 z1 z2 z3 z4, e = .returned (.agg #[.int .i64 z0, .int .i64 z1, .int .i64 z2, .int .i64 z3, .int .i64 z4]) ∧ (z0 = r.1.op ∧ z1 = r.1.a ∧ z2 = r.1.b ∧ z3 = r.1.c ∧ z4 = r.1.n) ∧ Mc B zs g off cap w' C r.2 ∧ OnlyK C w w'
theorem build_is0 (w : World) : (Instr.build 60 #[]).run Try.prog w = .ok (.agg #[.int .i64 0, .int .i64 0, .int .i64 0, .int .i64 0, .int .i64 0]) w := run_build w 60 _ _ (by kernel_rfl)
theorem build_is5 (a b c d e : Int) (w : World) : (Instr.build 60 #[(0, .int .i64 a), (1, .int .i64 b), (2, .int .i64 c), (3, .int .i64 d), (4, .int .i64 e)]).run Try.prog w = .ok (.agg #[.int .i64 a, .int .i64 b, .int .i64 c, .int .i64 d, .int .i64 e]) w := run_build w 60 _ _ (by kernel_rfl)
theorem Mc.setNew {B : Nat} {zs : List Int} {g off cap : Nat} {w : World} {C : Nat} {s : RS} (h : Mc B zs g off cap w C s) {b : Nat} (hb : B ≤ b) (o : Nat) (u : Value) : Mc B zs g off cap (w.setCell ⟨b, o, none⟩ u) C s := h.below ((Below.refl _ _).setCell hb u)
theorem or_step {u z : Int} (hu : 0 ≤ u ∧ u < 72057594037927936) (hz : 0 ≤ z ∧ z ≤ 255) : bits .or .u64 (IntKind.u64.wrap (u * 256)) z = z + 256 * u := by
  obtain ⟨U, rfl⟩ := Int.eq_ofNat_of_zero_le hu.1
  obtain ⟨Z, rfl⟩ := Int.eq_ofNat_of_zero_le hz.1
  have e1 : IntKind.u64.wrap ((U : Int) * 256) = ((U * 2 ^ 8 : Nat) : Int) := by rw [IntKind.wrap_u64]; simp only [Nat.reducePow]; omega
  rw [e1]
  have hO := or_add (X := Z) (Z := U) (i := 8) (by simp only [Nat.reducePow]; omega)
  have key : (BitVec.ofInt 64 ((U * 2 ^ 8 : Nat) : Int) ||| BitVec.ofInt 64 (Z : Int)).toNat = Z + U * 2 ^ 8 := by
    rw [BitVec.toNat_or, BitVec.toNat_ofInt, BitVec.toNat_ofInt, Nat.or_comm, ← hO]
    simp only [Nat.reducePow]
    congr 1 <;> omega
  show IntKind.u64.wrap ((BitVec.ofInt 64 ((U * 2 ^ 8 : Nat) : Int) ||| BitVec.ofInt 64 (Z : Int)).toNat : Nat) = _
  rw [key, IntKind.wrap_u64]
  simp only [Nat.reducePow]
  omega
set_option maxRecDepth 20000 in
set_option maxHeartbeats 4000000 in
theorem lone_any {B : Nat} {zs : List Int} {g off cap : Nat} {w : World} {C : Nat} {s : RS} (h : Mc B zs g off cap w C s) :
    Calls Try.prog 25 #[.pointer (some ⟨C, 0, none⟩)] w (MoP B zs g off cap C w (mOne s)) := by
  have hb0 := build_is0
  have hb5 := build_is5
  have hlen := h.len
  have hCB := h.lt
  have hBw := h.hB
  have hK : w.heap.size ≠ C := by omega
  have hlC : C < w.heap.size := by omega
  obtain ⟨wa, hwa⟩ := hidx (w.alloc (.cells #[.int .i64 0, .int .i64 0, .int .i64 0, .int .i64 0, .int .i64 0] 60))
  have la : Later w wa := by rw [hwa.out]; exact later1 _ _
  have hbx : Bxx wa w.heap.size [.int .i64 0, .int .i64 0, .int .i64 0, .int .i64 0, .int .i64 0] := by rw [hwa.out]; exact Bxx.new _ _ _
  have ha := h.later la
  have c0 := ha.c0
  have f1 := ha.f1
  have b0 := (hbx.cell 0 _ rfl).1
  have b1 := (hbx.cell 1 _ rfl).1
  have b2 := (hbx.cell 2 _ rfl).1
  have b3 := (hbx.cell 3 _ rfl).1
  have b4 := (hbx.cell 4 _ rfl).1
  have bf0 := (hbx.cell 0 _ rfl).2
  have bf1 := (hbx.cell 1 _ rfl).2
  have bf2 := (hbx.cell 2 _ rfl).2
  have bf3 := (hbx.cell 3 _ rfl).2
  have bf4 := (hbx.cell 4 _ rfl).2
  have bl := hbx.lt
  have hlCa : C < wa.heap.size := by omega
  have HBad : Hid (mOne s = (⟨0, 0, 0, 0, 0⟩, badS) → ∀ w2, Mc B zs g off cap w2 C badS → OnlyK C w w2 → MoP B zs g off cap C w (mOne s) (.returned (.agg #[.int .i64 0, .int .i64 0, .int .i64 0, .int .i64 0, .int .i64 0])) w2) := fun e w2 m o => by rw [e]; exact ⟨_, _, _, _, _, rfl, ⟨rfl, rfl, rfl, rfl, rfl⟩, m, o⟩
  rcases ha.c1 with ⟨hf, c1⟩ | ⟨hf, k, hk, hr, c1⟩
  · have HZ : Hid _ := HBad.out (by unfold mOne; rw [if_pos (Or.inl hf)])
    generalize MoP B zs g off cap C w (mOne s) = Q at *
    clear HBad
    have hme : Hid (∀ n, Mc B zs g off cap (wa.drewN n) C s) := fun n => ha.later (later_drewN (Later.refl _) _)
    clear ha h
    generalize zs.length = N at *
    go_enter Try.func25, Try.ntmps25
    go_wp2_with fail
    rw [← hwa.out]
    go_quiet (fail)
    go_wp2_with fail
    have hM := (hme.out nq).bad
    have oM : OnlyK C w ((wa.drewN nq).setCell ⟨C, 1, none⟩ (.int .i64 (-1))) := (OnlyK.of_later (later_drewN la nq)).set 1 _
    have hz : Bxx ((wa.drewN nq).setCell ⟨C, 1, none⟩ (.int .i64 (-1))) w.heap.size [.int .i64 0, .int .i64 0, .int .i64 0, .int .i64 0, .int .i64 0] := (hbx.later (later_drewN (Later.refl _) nq)).other hK _
    clear b0 b1 b2 b3 b4
    have b0 := (hz.cell 0 _ rfl).1
    have b1 := (hz.cell 1 _ rfl).1
    have b2 := (hz.cell 2 _ rfl).1
    have b3 := (hz.cell 3 _ rfl).1
    have b4 := (hz.cell 4 _ rfl).1
    generalize (wa.drewN nq).setCell ⟨C, 1, none⟩ (.int .i64 (-1)) = wz at *
    refine bodyPost_ret (v := .agg #[.int .i64 0, .int .i64 0, .int .i64 0, .int .i64 0, .int .i64 0]) (by simp [results, Try.results25, go_sem, b0, b1, b2, b3, b4]) rfl (HZ.out _ ?_ ?_)
    · repeat (first | with_reducible exact hM | refine Mc.setNew ?_ (by omega) _ _)
    · repeat (first | with_reducible exact oM | refine OnlyK.setNew ?_ (by omega) _ _)
  · have hw12 : IntKind.i64.wrap ((k : Int) + 12) = (k : Int) + 12 := by rw [IntKind.wrap_i64]; omega
    by_cases h12 : k + 12 ≤ zs.length
    · have hcond : (decide ((k : Int) < 0) || decide ((zs.length : Int) < IntKind.i64.wrap ((k : Int) + 12))) = false := by rw [hw12]; simp; omega
      have hgl : g < wa.heap.size := Nat.lt_of_lt_of_le ha.hg ha.hB
      have hcap : zs.length ≤ cap := ha.cc
      have hgC := ha.hgC
      obtain ⟨L, hL⟩ := hidx ((zs.drop (k + 4)).take 8)
      have hLl : L.length = 8 := by rw [hL.out, List.length_take, List.length_drop]; omega
      have hLz : ∀ j (hj : j < 8), ∃ z, L[j]'(by rw [hLl]; exact hj) = z ∧ (0 ≤ z ∧ z ≤ 255) ∧ wa.cell? ⟨g, off + k + (4 + j), none⟩ = some (.int .u8 z) := fun j hj => by
        have e : L[j]'(by rw [hLl]; exact hj) = zs[k + 4 + j]'(by omega) := by
          simp only [hL.out, List.getElem_take, List.getElem_drop]
        refine ⟨_, e, ha.by8 _ (List.getElem_mem _), ?_⟩
        have := ha.cs (k + 4 + j) (by omega)
        rw [show off + k + (4 + j) = off + (k + 4 + j) by omega]
        exact this
      have d0 := ha.cs k (by omega)
      have d1 := ha.cs (k + 1) (by omega)
      have d2 := ha.cs (k + 2) (by omega)
      have d3 := ha.cs (k + 3) (by omega)
      have q0 := ha.by8 zs[k] (List.getElem_mem _)
      have q1 := ha.by8 zs[k + 1] (List.getElem_mem _)
      have q2 := ha.by8 zs[k + 2] (List.getElem_mem _)
      have q3 := ha.by8 zs[k + 3] (List.getElem_mem _)
      have HLrg : ∀ j, j ≤ 8 → 1 ≤ j → 0 ≤ lowN (L.drop j) ∧ lowN (L.drop j) < 72057594037927936 := fun j hj h1 => by
        have := lowN_rg (L.drop j) (fun z hz => ha.by8 z (List.mem_of_mem_drop (List.mem_of_mem_take (by have := List.mem_of_mem_drop hz; rw [hL.out] at this; exact this))))
        rw [List.length_drop, hLl] at this
        have hp := pow_le (show 8 - j ≤ 7 by omega)
        exact ⟨this.1, Int.lt_of_lt_of_le this.2 hp⟩
      have HL8 : 0 ≤ lowN L ∧ lowN L < 18446744073709551616 := by
        have := lowN_rg L (fun z hz => ha.by8 z (List.mem_of_mem_drop (List.mem_of_mem_take (by rw [hL.out] at hz; exact hz))))
        rw [hLl] at this
        exact this
      have HLs : ∀ j (hj : j < 8), lowN (L.drop j) = L[j]'(by rw [hLl]; exact hj) + 256 * lowN (L.drop (j + 1)) := fun j hj => by rw [List.drop_eq_getElem_cons (by rw [hLl]; exact hj), lowN]
      have eM : mOne s = (⟨zs[k], zs[k + 1], zs[k + 2], zs[k + 3], wr64 (lowN L)⟩, ⟨zs.drop (k + 12), false⟩) := by
        have hg : ∀ j (hj : k + j < zs.length), (zs.drop k).getD j 0 = zs[k + j] := fun j hj => by rw [List.getD_eq_getElem?_getD, List.getElem?_drop, List.getElem?_eq_getElem hj]; rfl
        unfold mOne
        rw [if_neg (by rw [hf, hr, List.length_drop]; simp; omega), hr, List.drop_drop, List.drop_drop, hg 0 (by omega), hg 1 (by omega), hg 2 (by omega), hg 3 (by omega), hL.out]
        rfl
      have HZ : Hid (∀ w2 z0 z1 z2 z3 z4, z0 = zs[k] → z1 = zs[k + 1] → z2 = zs[k + 2] → z3 = zs[k + 3] → z4 = wr64 (lowN L) → Mc B zs g off cap w2 C ⟨zs.drop (k + 12), false⟩ → OnlyK C w w2 → MoP B zs g off cap C w (mOne s) (.returned (.agg #[.int .i64 z0, .int .i64 z1, .int .i64 z2, .int .i64 z3, .int .i64 z4])) w2) := fun w2 z0 z1 z2 z3 z4 e0 e1 e2 e3 e4 m o => by
        rw [eM]
        exact ⟨_, _, _, _, _, rfl, ⟨e0, e1, e2, e3, e4⟩, m, o⟩
      generalize MoP B zs g off cap C w (mOne s) = Q at *
      have hme : Hid (∀ w2, Later wa w2 → Mc B zs g off cap (w2.setCell ⟨C, 1, none⟩ (.int .i64 ((k : Int) + 12))) C ⟨zs.drop (k + 12), false⟩) := fun w2 l => (ha.later l).move (k + 12) h12
      clear HBad ha h eM hr hf
      generalize zs[k] = z0 at *
      generalize zs[k + 1] = z1 at *
      generalize zs[k + 2] = z2 at *
      generalize zs[k + 3] = z3 at *
      have HZS : Hid (∃ N, N = zs.length) := ⟨_, rfl⟩
      clear HZS
      generalize zs.length = N at *
      go_enter Try.func25, Try.ntmps25
      go_wp2_with fail
      rw [← hwa.out]
      go_quiet (fail)
      go_wp2_with fail
      go_quiet (fail)
      go_wp2_with fail
      generalize hwq : (World.drewN wa _).drewN nq = wq
      have lq : Later wa wq := by rw [← hwq]; exact later_drewN (later_drewN (Later.refl _) _) _
      clear hwq
      have hlCq : C < wq.heap.size := Nat.lt_of_lt_of_le hlCa lq.size
      have c1q : wq.cell? ⟨C, 1, none⟩ = some (.int .i64 (k : Int)) := by rw [Below.cell lq (p := ⟨C, 1, none⟩) hlCa]; exact c1
      have f1q : wq.frozen? ⟨C, 1, none⟩ = false := by rw [Below.frozen lq (p := ⟨C, 1, none⟩) hlCa]; exact f1
      have hbq := hbx.later lq
      have hLq : Hid (∀ j (hj : j < 8), ∃ z, L[j]'(by rw [hLl]; exact hj) = z ∧ (0 ≤ z ∧ z ≤ 255) ∧ wq.cell? ⟨g, off + k + (4 + j), none⟩ = some (.int .u8 z)) := fun j hj => by
        obtain ⟨z, e1, e2, e3⟩ := hLz j hj
        exact ⟨z, e1, e2, by rw [Below.cell lq (p := ⟨g, off + k + (4 + j), none⟩) hgl]; exact e3⟩
      have g0 : wq.cell? ⟨g, off + k, none⟩ = some (.int .u8 z0) := by rw [Below.cell lq (p := ⟨g, off + k, none⟩) hgl]; exact d0
      have g1 : wq.cell? ⟨g, off + k + 1, none⟩ = some (.int .u8 z1) := by rw [Below.cell lq (p := ⟨g, off + k + 1, none⟩) hgl]; exact d1
      have g2 : wq.cell? ⟨g, off + k + 2, none⟩ = some (.int .u8 z2) := by rw [Below.cell lq (p := ⟨g, off + k + 2, none⟩) hgl]; exact d2
      have g3 : wq.cell? ⟨g, off + k + 3, none⟩ = some (.int .u8 z3) := by rw [Below.cell lq (p := ⟨g, off + k + 3, none⟩) hgl]; exact d3
      have hgq : g < wq.heap.size := Nat.lt_of_lt_of_le hgl lq.size
      have HLr : Hid (∀ j, j ≤ 8 → 1 ≤ j → 0 ≤ lowN (L.drop j) ∧ lowN (L.drop j) < 72057594037927936) := HLrg
      have HLS : Hid (∀ j (hj : j < 8), lowN (L.drop j) = L[j]'(by rw [hLl]; exact hj) + 256 * lowN (L.drop (j + 1))) := HLs
      clear hLz d0 d1 d2 d3 b0 b1 b2 b3 b4 bf0 bf1 bf2 bf3 bf4 c1 f1 c0 hbx HLrg HLs
      go_loopw [4, 5] (fun u jj wr => ∃ j : Nat, jj = .int .i64 ((j : Int) - 1) ∧ j ≤ 8 ∧ u = .int .u64 (lowN (L.drop j)) ∧ Hid (wr = wq)) (fun _ jj _ => (intOf jj + 1).toNat)
      case atStart => exact ⟨8, by rfl, Nat.le_refl _, by rw [List.drop_eq_nil_of_le (by omega)]; rfl, rfl⟩
      case round =>
        obtain ⟨j, rfl, hj, rfl, hwr⟩ := hrel
        obtain rfl := hwr.out
        by_cases h0 : 1 ≤ j
        · obtain ⟨i, rfl⟩ : ∃ i, j = i + 1 := ⟨j - 1, by omega⟩
          obtain ⟨z, ez, hz, cz⟩ := hLq.out i (by omega)
          have hst := HLS.out i (by omega)
          rw [ez] at hst
          have hsp := or_step (HLr.out (i + 1) hj h0) hz
          rw [← hst] at hsp
          have ei : ((i + 1 : Nat) : Int) - 1 = (i : Int) := by omega
          rw [ei]
          have i0 : (0 : Int) ≤ (i : Int) := by omega
          clear HLS HLr hLq hst ez
          go_wp2_with fail
          go_roundw
          case rel => exact ⟨i, rfl, by omega, by first | rfl | rw [hsp], trivial⟩
          case measure => simp [intOf]
        · have ej : j = 0 := by omega
          subst ej
          rw [show ((0 : Nat) : Int) - 1 = -1 from rfl, List.drop_zero]
          have hM := hme.out wr lq
          have oM : OnlyK C w (wr.setCell ⟨C, 1, none⟩ (.int .i64 ((k : Int) + 12))) := (OnlyK.of_later (la.trans lq)).set 1 _
          have hz : Bxx (wr.setCell ⟨C, 1, none⟩ (.int .i64 ((k : Int) + 12))) w.heap.size [.int .i64 0, .int .i64 0, .int .i64 0, .int .i64 0, .int .i64 0] := hbq.other hK _
          have p0 : (wr.setCell ⟨C, 1, none⟩ (.int .i64 ((k : Int) + 12))).cell? ⟨g, off + k, none⟩ = some (.int .u8 z0) := by rw [set_block _ _ _ _ hgC]; exact g0
          have p1 : (wr.setCell ⟨C, 1, none⟩ (.int .i64 ((k : Int) + 12))).cell? ⟨g, off + k + 1, none⟩ = some (.int .u8 z1) := by rw [set_block _ _ _ _ hgC]; exact g1
          have p2 : (wr.setCell ⟨C, 1, none⟩ (.int .i64 ((k : Int) + 12))).cell? ⟨g, off + k + 2, none⟩ = some (.int .u8 z2) := by rw [set_block _ _ _ _ hgC]; exact g2
          have p3 : (wr.setCell ⟨C, 1, none⟩ (.int .i64 ((k : Int) + 12))).cell? ⟨g, off + k + 3, none⟩ = some (.int .u8 z3) := by rw [set_block _ _ _ _ hgC]; exact g3
          have pl : g < (wr.setCell ⟨C, 1, none⟩ (.int .i64 ((k : Int) + 12))).heap.size := by simpa using hgq
          have eW : wrap64 (lowN L) = wr64 (lowN L) := by unfold wrap64 wr64; split <;> omega
          have b0 := (hz.cell 0 _ rfl).1
          have b1 := (hz.cell 1 _ rfl).1
          have b2 := (hz.cell 2 _ rfl).1
          have b3 := (hz.cell 3 _ rfl).1
          have b4 := (hz.cell 4 _ rfl).1
          have bf0 := (hz.cell 0 _ rfl).2
          have bf1 := (hz.cell 1 _ rfl).2
          have bf2 := (hz.cell 2 _ rfl).2
          have bf3 := (hz.cell 3 _ rfl).2
          have bf4 := (hz.cell 4 _ rfl).2
          have bl := hz.lt
          have HZ2 : Hid (∀ w2, Mc B zs g off cap w2 C ⟨zs.drop (k + 12), false⟩ → OnlyK C w w2 → Q (.returned (.agg #[.int .i64 z0, .int .i64 z1, .int .i64 z2, .int .i64 z3, .int .i64 (wrap64 (lowN L))])) w2) := fun w2 => HZ.out w2 z0 z1 z2 z3 _ rfl rfl rfl rfl eW
          clear HZ HLS HLr hLq g0 g1 g2 g3 eW hbq hme
          generalize lowN L = U at *
          go_wp2_with fail
          generalize wr.setCell ⟨C, 1, none⟩ (.int .i64 ((k : Int) + 12)) = wz at *
          clear c1q f1q hwr lq
          go_big_region
          go_wp2_with fail
          refine bodyPost_ret (v := .agg #[.int .i64 z0, .int .i64 z1, .int .i64 z2, .int .i64 z3, .int .i64 (wrap64 U)]) (by simp [results, Try.results25, go_sem, b0, b1, b2, b3, b4]) rfl (HZ2.out _ ?_ ?_)
          · refine Mc.later ?_ (Later.drew _)
            repeat (first | with_reducible exact hM | refine Mc.setNew ?_ (by omega) _ _)
          · refine OnlyK.trans ?_ (OnlyK.of_later (Later.drew _))
            repeat (first | with_reducible exact oM | refine OnlyK.setNew ?_ (by omega) _ _)
    · have hcond : (decide ((k : Int) < 0) || decide ((zs.length : Int) < IntKind.i64.wrap ((k : Int) + 12))) = true := by rw [hw12]; simp; omega
      have HZ : Hid _ := HBad.out (by unfold mOne; rw [if_pos (Or.inr (by rw [hr, List.length_drop]; omega))])
      generalize MoP B zs g off cap C w (mOne s) = Q at *
      clear HBad
      have hme : Hid (∀ n, Mc B zs g off cap (wa.drewN n) C s) := fun n => ha.later (later_drewN (Later.refl _) _)
      clear ha h
      generalize zs.length = N at *
      go_enter Try.func25, Try.ntmps25
      go_wp2_with fail
      rw [← hwa.out]
      go_quiet (fail)
      go_wp2_with fail
      have hM := (hme.out nq).bad
      have oM : OnlyK C w ((wa.drewN nq).setCell ⟨C, 1, none⟩ (.int .i64 (-1))) := (OnlyK.of_later (later_drewN la nq)).set 1 _
      have hz : Bxx ((wa.drewN nq).setCell ⟨C, 1, none⟩ (.int .i64 (-1))) w.heap.size [.int .i64 0, .int .i64 0, .int .i64 0, .int .i64 0, .int .i64 0] := (hbx.later (later_drewN (Later.refl _) nq)).other hK _
      clear b0 b1 b2 b3 b4
      have b0 := (hz.cell 0 _ rfl).1
      have b1 := (hz.cell 1 _ rfl).1
      have b2 := (hz.cell 2 _ rfl).1
      have b3 := (hz.cell 3 _ rfl).1
      have b4 := (hz.cell 4 _ rfl).1
      generalize (wa.drewN nq).setCell ⟨C, 1, none⟩ (.int .i64 (-1)) = wz at *
      refine bodyPost_ret (v := .agg #[.int .i64 0, .int .i64 0, .int .i64 0, .int .i64 0, .int .i64 0]) (by simp [results, Try.results25, go_sem, b0, b1, b2, b3, b4]) rfl (HZ.out _ ?_ ?_)
      · repeat (first | with_reducible exact hM | refine Mc.setNew ?_ (by omega) _ _)
      · repeat (first | with_reducible exact oM | refine OnlyK.setNew ?_ (by omega) _ _)
end Go.Proofs.Ytlfkjjnhlkaipaa
