/- Doms by the model, as one answer; the law of Doms, for every function. -/
import Derived.Test.YthammngddmkhhaaZ13
import Derived.Test.YthammngddmkhhaaY6
import Derived.Test.YthammngddmkhhaaY7
namespace Go.Proofs.Ythammngddmkhhaa
open Go.RowKit

set_option maxRecDepth 20000 in
set_option maxHeartbeats 2000000 in
theorem sdoms_ans (x : Fc) (v0 v1 v2 : Value) (w : World) (h0 : RdL w 2 v0 (Tp.dats x.params)) (h1 : RdL w 5 v1 (Va.dats x.vals)) (h2 : RdL w 5 v2 (Bl.dats x.blocks)) :
    Calls Try.prog 5 #[.agg #[v0, .int .i64 x.rk, .int .i64 x.rn, v1, v2]] w (DomsA x w) := by
  obtain ⟨a0, p0, rfl, _⟩ := Tp.slice h0
  obtain ⟨a1, p1, rfl, _⟩ := Va.slice h1
  obtain ⟨a2, p2, rfl, hl2⟩ := Bl.slice h2
  generalize x.rk = zrk
  generalize x.rn = zrn
  obtain ⟨n, hnb⟩ := hid_ex2 x.blocks.length
  obtain ⟨n0, hn0⟩ := hid_ex2 x.params.length
  obtain ⟨n1, hn1⟩ := hid_ex2 x.vals.length
  rw [← hnb.out] at h2 hl2 ⊢
  rw [← hn0.out, ← hn1.out]
  have HNo : Hid (∀ w', ¬ x.may → Later w w' → DomsA x w (.returned (.slice none 0 0)) w') := fun w' hx l => DomsA.empty hx l
  have hlead := fun w' (l : Later w w') => slead_any x a0 a1 n0 p0 n1 p1 zrk zrn (.slice a2 n p2) w' (RdL.later l h2)
  by_cases hb : (400 : Int) < (n : Int)
  · have HA' : Hid (∀ o, DomsA x w (.returned (.slice none 0 0)) (w.alloc o)) := fun o => HNo.out _ (fun q => by have := q.2.1; rw [← hnb.out] at this; omega) (later1 _ _)
    generalize hQ : DomsA x w = Q at *
    clear hQ HNo hlead
    go_enter Try.func5, Try.ntmps5
    go_wp2_with fail
    exact HA'.out _
  · have hn4 : n ≤ 400 := by omega
    have hdoms := fun w' (l : Later w w') (hx : x.lead) => sdoms_any x a0 a1 n0 p0 n1 p1 zrk zrn a2 n p2 w' hx hnb hn4 (RdL.later l h2)
    have hbx := fun (w2 : World) (l2 : Later (w.alloc (.cells #[.slice a0 n0 p0, .int .i64 zrk, .int .i64 zrn, .slice a1 n1 p1, .slice a2 n p2] 37)) w2) => (show w2.cell? ⟨w.heap.size, 0, none⟩ = some (.slice a0 n0 p0) ∧ w2.cell? ⟨w.heap.size, 1, none⟩ = some (.int .i64 zrk) ∧ w2.cell? ⟨w.heap.size, 2, none⟩ = some (.int .i64 zrn) ∧ w2.cell? ⟨w.heap.size, 3, none⟩ = some (.slice a1 n1 p1) ∧ w2.cell? ⟨w.heap.size, 4, none⟩ = some (.slice a2 n p2) from ⟨bxcell (by simp) (by simp) l2, bxcell (by simp) (by simp) l2, bxcell (by simp) (by simp) l2, bxcell (by simp) (by simp) l2, bxcell (by simp) (by simp) l2⟩)
    have HY : Hid (∀ w1 e w', Later w w1 → x.lead → SDomsP x n w1 e w' → ∃ g, e = .returned (.slice (some ⟨g, 0, none⟩) n n) ∧ DomsA x w (.returned (.slice (some ⟨g, 0, none⟩) n n)) w') := fun w1 e w' l hx hs => by
      obtain ⟨g, zs, al, cs, rfl, l', hr, hg, hzl, hbest, hal, hcs⟩ := hs
      refine ⟨g, rfl, _, n, n, zs, rfl, l.trans l', ⟨_, n, by rw [hzl], by rw [hzl]; omega, fun _ => ⟨g, rfl, Nat.le_trans l.size hg, hr.lt, fun j hj => hr.at_ j hj⟩⟩, hzl.symm, fun hm => ?_, fun hm => ?_⟩
      · rw [← hnb.out]
        exact BestP.isDoms ⟨hal, hcs, fun i hi => by rw [hnb.out]; exact Fc.Rd_lt hx hm.1 hi⟩ hzl hbest
      · have : n = 0 := by
          rcases Nat.eq_zero_or_pos n with q | q
          · exact q
          · exact absurd ⟨by have := hnb.out; omega, by have := hnb.out; omega, hx⟩ hm
        rw [this] at hzl
        exact List.length_eq_zero_iff.1 hzl
    generalize hQ : DomsA x w = Q at *
    clear hQ h0 h1 h2
    go_enter Try.func5, Try.ntmps5
    go_wp2_with fail
    refine (hlead _ (later1 _ _)).mono ?_
    rintro e w1 ⟨b, rfl, hbl, l1⟩
    have L1 := (later1 _ _).trans l1
    cases b with
    | false =>
      have HA := HNo.out w1 (fun q => by have := hbl.2 q.2.2; cases this) L1
      clear HNo hlead hdoms hbl hbx HY
      go_wp2_with fail
      exact HA
    | true =>
      have hx := hbl.1 rfl
      obtain ⟨y0, y1, y2, y3, y4⟩ := hbx w1 l1
      have hdd := hdoms w1 L1 hx
      clear HNo hlead hdoms hbl hbx
      go_wp2_with fail
      refine hdd.mono ?_
      intro e w2 hs
      obtain ⟨g, rfl, HA⟩ := HY.out w1 e w2 L1 hx hs
      clear HY hs
      go_wp2_with fail
      exact HA

set_option maxRecDepth 20000 in
set_option maxHeartbeats 8000000 in
theorem lawdoms_any (x : Fc) (v0 v1 v2 : Value) (w : World) (h0 : RdL w 2 v0 (Tp.dats x.params)) (h1 : RdL w 5 v1 (Va.dats x.vals)) (h2 : RdL w 5 v2 (Bl.dats x.blocks)) :
    Calls Try.prog 3 #[.agg #[v0, .int .i64 x.rk, .int .i64 x.rn, v1, v2]] w fun e w' => e = .returned (.bool true) ∧ Later w w' := by
  have hsz := fun w' (l : Later w w') => szFc_any x v0 v1 v2 1048576 w' (RdL.later l h0) (RdL.later l h1) (RdL.later l h2) (by decide) (by decide)
  have hto := fun (hs : x.sz ≤ 1048576) w' (l : Later w w') => toFc_any x v0 v1 v2 w' (RdL.later l h0) (RdL.later l h1) (RdL.later l h2) hs
  have hI := fun w' v0 v1 v2 (k0 : RdL w' 2 v0 (Tp.dats x.params)) (k1 : RdL w' 5 v1 (Va.dats x.vals)) (k2 : RdL w' 5 v2 (Bl.dats x.blocks)) => idoms_any x v0 v1 v2 w' k0 k1 k2
  have hS := fun w' v0 v1 v2 (k0 : RdL w' 2 v0 (Tp.dats x.params)) (k1 : RdL w' 5 v1 (Va.dats x.vals)) (k2 : RdL w' 5 v2 (Bl.dats x.blocks)) => sdoms_ans x v0 v1 v2 w' k0 k1 k2
  have hEq := fun v0 v1 v2 u0 u1 u2 w' (k0 : RdL w' 2 v0 (Tp.dats x.params)) (k1 : RdL w' 5 v1 (Va.dats x.vals)) (k2 : RdL w' 5 v2 (Bl.dats x.blocks)) (j0 : RdL w' 2 u0 (Tp.dats x.params)) (j1 : RdL w' 5 u1 (Va.dats x.vals)) (j2 : RdL w' 5 u2 (Bl.dats x.blocks)) => eqFc_true x v0 v1 v2 u0 u1 u2 w' k0 k1 k2 j0 j1 j2
  have hMk := fun (P : Nat → Prop) v0 v1 v2 w' (k0 : Sk P w' (.list 2 (Tp.dats x.params)) [v0]) (k1 : Sk P w' (.list 5 (Va.dats x.vals)) [v1]) (k2 : Sk P w' (.list 5 (Bl.dats x.blocks)) [v2]) (hs : x.sz ≤ 1048576) => markFc_sk x v0 v1 v2 1 w' k0 k1 k2 (by decide) (by omega)
  have hVw := fun w' cs (h : RdD w' x.dat cs) => Fc.view h
  have hSv := fun (P : Nat → Prop) w' cs (h : Sk P w' x.dat cs) => Fc.skView h
  obtain ⟨a0, p0, rfl, _⟩ := Tp.slice h0
  obtain ⟨a1, p1, rfl, _⟩ := Va.slice h1
  obtain ⟨a2, p2, rfl, _⟩ := Bl.slice h2
  clear h0 h1 h2
  generalize x.rk = zk at *
  generalize x.rn = zn at *
  obtain ⟨n0, hn0⟩ := hid_ex2 x.params.length
  obtain ⟨n1, hn1⟩ := hid_ex2 x.vals.length
  obtain ⟨n2, hn2⟩ := hid_ex2 x.blocks.length
  rw [← hn0.out, ← hn1.out, ← hn2.out] at hto hsz hSv ⊢
  have hbx : Hid (∀ (w2 : World), Later (w.alloc (.cells #[.slice a0 n0 p0, .int .i64 zk, .int .i64 zn, .slice a1 n1 p1, .slice a2 n2 p2] 28)) w2 → (w2.cell? ⟨w.heap.size, 0, none⟩ = some (.slice a0 n0 p0) ∧ w2.cell? ⟨w.heap.size, 1, none⟩ = some (.int .i64 zk) ∧ w2.cell? ⟨w.heap.size, 2, none⟩ = some (.int .i64 zn) ∧ w2.cell? ⟨w.heap.size, 3, none⟩ = some (.slice a1 n1 p1) ∧ w2.cell? ⟨w.heap.size, 4, none⟩ = some (.slice a2 n2 p2))) := fun w2 l2 => ⟨bxcell (by simp) (by simp) l2, bxcell (by simp) (by simp) l2, bxcell (by simp) (by simp) l2, bxcell (by simp) (by simp) l2, bxcell (by simp) (by simp) l2⟩
  have LB := later1 w (.cells #[.slice a0 n0 p0, .int .i64 zk, .int .i64 zn, .slice a1 n1 p1, .slice a2 n2 p2] 28)
  by_cases hs : x.sz ≤ 1048576
  · have hs' : ((x.sz : Nat) : Int) ≤ 1048576 := by omega
    rw [szR_pos hs'] at hsz
    have hto' := hto hs
    have hMk' := fun P v0 v1 v2 w' k0 k1 k2 => hMk P v0 v1 v2 w' k0 k1 k2 hs
    have n0' : ¬ (1048576 : Int) - ((x.sz : Nat) : Int) < 0 := by omega
    clear hto hMk
    go_enter Try.func3, Try.ntmps3
    go_wp2_with fail
    refine (hsz _ (later1 _ _)).mono ?_
    rintro e w1 ⟨rfl, l1⟩
    obtain ⟨y0, y1, y2, y3, y4⟩ := hbx.out _ l1
    clear hsz
    go_wp2_with fail
    refine (hto' _ (LB.trans l1)).mono ?_
    rintro e w2 ⟨b0, q0, b1, q1, b2, q2, F2, rfl, O2, l2⟩
    obtain ⟨_, _, _, e2, r20, r21, r22⟩ := hVw _ _ O2.rd
    cases e2
    have B2 := l1.trans l2
    clear l2 O2 y0 y1 y2 y3 y4 l1
    obtain ⟨y0, y1, y2, y3, y4⟩ := hbx.out _ B2
    go_wp2_with fail
    refine (hS w2 _ _ _ r20 r21 r22).mono ?_
    rintro e w3 ⟨a3, M3, c3, zs, rfl, l3, A3, hM3, hzs⟩
    have B3 := B2.trans l3
    have R3 := A3.rd
    clear l3 r20 r21 r22 hS A3 y0 y1 y2 y3 y4 B2
    obtain ⟨y0, y1, y2, y3, y4⟩ := hbx.out _ B3
    go_wp2_with fail
    refine (hto' _ (LB.trans B3)).mono ?_
    rintro e w4 ⟨b4, q4, b5, q5, b6, q6, F4, rfl, O4, l4⟩
    obtain ⟨_, _, _, e4, r40, r41, r42⟩ := hVw _ _ O4.rd
    cases e4
    obtain ⟨_, _, _, _, _, _, _, _, e4', s40, s41, s42⟩ := hSv _ _ _ O4.sk
    simp only [List.cons.injEq, Value.slice.injEq, Value.int.injEq, and_true, true_and] at e4'
    obtain ⟨⟨rfl, rfl⟩, rfl, rfl, ⟨rfl, rfl⟩, rfl, rfl⟩ := e4'
    have B4 := B3.trans l4
    have s34 := l4.size
    have T4 := l4
    clear l4 O4 hSv y0 y1 y2 y3 y4
    have LX := later1 w4 (.cells #[.slice b4 n0 q4, .int .i64 zk, .int .i64 zn, .slice b5 n1 q5, .slice b6 n2 q6] 37)
    have hXx : Hid (∀ (w2 : World), Later (w4.alloc (.cells #[.slice b4 n0 q4, .int .i64 zk, .int .i64 zn, .slice b5 n1 q5, .slice b6 n2 q6] 37)) w2 → (w2.cell? ⟨w4.heap.size, 0, none⟩ = some (.slice b4 n0 q4) ∧ w2.cell? ⟨w4.heap.size, 1, none⟩ = some (.int .i64 zk) ∧ w2.cell? ⟨w4.heap.size, 2, none⟩ = some (.int .i64 zn) ∧ w2.cell? ⟨w4.heap.size, 3, none⟩ = some (.slice b5 n1 q5) ∧ w2.cell? ⟨w4.heap.size, 4, none⟩ = some (.slice b6 n2 q6))) := fun w2 l2 => ⟨bxcell (by simp) (by simp) l2, bxcell (by simp) (by simp) l2, bxcell (by simp) (by simp) l2, bxcell (by simp) (by simp) l2, bxcell (by simp) (by simp) l2⟩
    go_wp2_with fail
    refine (hI _ _ _ _ (RdL.later LX r40) (RdL.later LX r41) (RdL.later LX r42)).mono ?_
    rintro e w5 ⟨a5, M5, c5, zs', rfl, l5, A5, hM5, hzs'⟩
    obtain rfl := hzs.unique hzs'
    have HU : Hid (∀ ys, IsAns x ys → zs = ys) := fun ys h => hzs.unique h
    have A5 : AnsK .i64 (w4.heap.size + 1) w5 (.slice a5 M5 c5) zs := by simpa using A5
    have M45 := LX.trans l5
    have B5 := B4.trans M45
    have T5 := T4.trans M45
    have X5 := l5
    clear l5 hzs hzs'
    go_wp2_with fail
    refine (eqi_same A5.rd (R3.later T5)).mono ?_
    rintro e w6 ⟨rfl, l6⟩
    have B6 := B5.trans l6
    have M46 := M45.trans l6
    have T6 := T5.trans l6
    have A6 := A5.later l6
    have X6 := X5.trans l6
    clear l6 A5 B5 M45 T5 X5
    have hE := fun w' u0 u1 u2 (l : Later w6 w') (k0 : RdL w' 2 u0 (Tp.dats x.params)) (k1 : RdL w' 5 u1 (Va.dats x.vals)) (k2 : RdL w' 5 u2 (Bl.dats x.blocks)) => hEq _ _ _ u0 u1 u2 w' (RdL.later (M46.trans l) r40) (RdL.later (M46.trans l) r41) (RdL.later (M46.trans l) r42) k0 k1 k2
    have HS : Hid (∀ w', Later w6 w' → (Later w6 w' ∧ (w'.cell? ⟨w.heap.size, 0, none⟩ = some (.slice a0 n0 p0) ∧ w'.cell? ⟨w.heap.size, 1, none⟩ = some (.int .i64 zk) ∧ w'.cell? ⟨w.heap.size, 2, none⟩ = some (.int .i64 zn) ∧ w'.cell? ⟨w.heap.size, 3, none⟩ = some (.slice a1 n1 p1) ∧ w'.cell? ⟨w.heap.size, 4, none⟩ = some (.slice a2 n2 p2)) ∧ (w'.cell? ⟨w4.heap.size, 0, none⟩ = some (.slice b4 n0 q4) ∧ w'.cell? ⟨w4.heap.size, 1, none⟩ = some (.int .i64 zk) ∧ w'.cell? ⟨w4.heap.size, 2, none⟩ = some (.int .i64 zn) ∧ w'.cell? ⟨w4.heap.size, 3, none⟩ = some (.slice b5 n1 q5) ∧ w'.cell? ⟨w4.heap.size, 4, none⟩ = some (.slice b6 n2 q6)))) := fun w' ll => ⟨ll, hbx.out _ (B6.trans ll), hXx.out _ (X6.trans ll)⟩
    have HM : Hid (∀ w', Later w6 w' → Calls Try.prog 10 #[.agg #[.slice b4 n0 q4, .int .i64 zk, .int .i64 zn, .slice b5 n1 q5, .slice b6 n2 q6], .int .i64 1] w' (MkQ (fun b => w3.heap.size ≤ b ∧ b < w4.heap.size) w' 1 (16 * x.sz))) := fun w' ll => hMk' _ _ _ _ w' (s40.slice_inks (Inks.later (M46.trans ll))) (s41.slice_inks (Inks.later (M46.trans ll))) (s42.slice_inks (Inks.later (M46.trans ll)))
    clear r40 r41 r42 s40 s41 s42 hXx hMk' hEq
    go_wp2_with fail
    go_region_held3 (fun w' => Later w6 w' ∧ (w'.cell? ⟨w.heap.size, 0, none⟩ = some (.slice a0 n0 p0) ∧ w'.cell? ⟨w.heap.size, 1, none⟩ = some (.int .i64 zk) ∧ w'.cell? ⟨w.heap.size, 2, none⟩ = some (.int .i64 zn) ∧ w'.cell? ⟨w.heap.size, 3, none⟩ = some (.slice a1 n1 p1) ∧ w'.cell? ⟨w.heap.size, 4, none⟩ = some (.slice a2 n2 p2)) ∧ (w'.cell? ⟨w4.heap.size, 0, none⟩ = some (.slice b4 n0 q4) ∧ w'.cell? ⟨w4.heap.size, 1, none⟩ = some (.int .i64 zk) ∧ w'.cell? ⟨w4.heap.size, 2, none⟩ = some (.int .i64 zn) ∧ w'.cell? ⟨w4.heap.size, 3, none⟩ = some (.slice b5 n1 q5) ∧ w'.cell? ⟨w4.heap.size, 4, none⟩ = some (.slice b6 n2 q6))) (first | exact HS.out _ (Later.drew _) | exact HS.out _ ((Later.drew _).trans l7) | exact HS.out _ (((Later.drew _).trans l7).trans l8)) (first | (go_at_call 6; refine (hto' _ ((LB.trans B6).trans (Later.drew _))).mono ?_; rintro e w7 ⟨b7, q7, b8, q8, b9, q9, F6, rfl, O6, l7⟩; obtain ⟨_, _, _, e6, r60, r61, r62⟩ := hVw _ _ O6.rd; cases e6) | (go_at_call 9; refine (hE _ _ _ _ ((Later.drew _).trans l7) r60 r61 r62).mono ?_; rintro e w8 ⟨rfl, l8⟩))
    all_goals
      have l68 := ((Later.drew _).trans l7).trans l8
      obtain ⟨_, ⟨y0, y1, y2, y3, y4⟩, x0, x1, x2, x3, x4⟩ := HS.out _ l68
      have B8 := B6.trans l68
      have T8 := T6.trans l68
      have A8 := A6.later l68
      have HM8 := HM.out _ l68
      have s38 : w3.heap.size ≤ w8.heap.size := T8.size
      clear HS HM hE l68
      go_wp2_with fail
      refine HM8.mono ?_
      rintro e w9 ⟨k9, rfl, hk9, _, J9⟩
      have T9 : Later w3 w9 := Below.cut T8 (J9.below (fun b hb => hb.1) s38)
      have B9 := B3.trans T9
      have A9 : AnsK .i64 (w4.heap.size + 1) w9 (.slice a5 M5 c5) zs := A8.keep J9.size (fun b hb hb' => J9.block b hb' (fun hp => by have := hp.2; omega))
      have i9 : ¬ k9 < 0 := by omega
      clear J9 A8 HM8 T8 B8 y0 y1 y2 y3 y4 x0 x1 x2 x3 x4
      go_wp2_with fail
      refine (eqi_same A9.rd (R3.later T9)).mono ?_
      rintro e w10 ⟨rfl, l10⟩
      have A10 := A9.later l10
      have T10 := T9.trans l10
      clear l10 A9 T9 B9
      go_wp2_with fail
      refine (marki_ans A10).mono ?_
      rintro e w11 ⟨rfl, B11, K11⟩
      have T11 : Later w3 w11 := Below.cut T10 (Below.less B11 (by omega))
      have C11 := B3.trans T11
      obtain ⟨y0, y1, y2, y3, y4⟩ := hbx.out _ C11
      have hml : zs.length ≤ 1048576 := by obtain ⟨_, _, _, h, _⟩ := A10; exact h
      rw [← hM5.out] at K11 hml
      rw [← hM5.out]
      clear A10 B11 T10
      have hm0 : ¬ 1 + (M5 : Int) < 0 := by omega
      have hmm : ((1 + (M5 : Int)) != (1 + (M5 : Int))) = false := by simp
      go_wp2_with fail
      refine (heldi_ans K11).mono ?_
      rintro e w11' ⟨rfl, hw⟩
      obtain rfl := hw.symm
      clear hw
      go_wp2_with fail
      refine (hto' _ (LB.trans C11)).mono ?_
      rintro e w12 ⟨b10, q10, b11, q11, b12, q12, F12, rfl, O12, l12⟩
      obtain ⟨_, _, _, e12, r120, r121, r122⟩ := hVw _ _ O12.rd
      cases e12
      have C12 := C11.trans l12
      have T12 := T11.trans l12
      have K12 := K11.later l12
      clear O12 l12 K11 T11 y0 y1 y2 y3 y4
      go_wp2_with fail
      refine (hI _ _ _ _ r120 r121 r122).mono ?_
      rintro e w13 ⟨a13, M13, c13, zs13, rfl, l13, A13, hM13, hzs13⟩
      obtain rfl := HU.out _ hzs13
      have C13 := C12.trans l13
      have T13 := T12.trans l13
      have K13 := K12.later l13
      clear r120 r121 r122 l13 K12 T12 hzs13
      go_wp2_with fail
      refine (eqi_same A13.rd (R3.later T13)).mono ?_
      rintro e w14 ⟨rfl, l14⟩
      have K14 := K13.later l14
      have C14 := C13.trans l14
      clear A13 l14 T13 K13
      go_wp2_with fail
      refine (heldi_ans K14).mono ?_
      rintro e w14' ⟨rfl, hw⟩
      obtain rfl := hw.symm
      clear hw
      go_wp2_with fail
      go_ret
      exact ⟨rfl, LB.trans C14⟩
  · have hs' : ¬ ((x.sz : Nat) : Int) ≤ 1048576 := by omega
    rw [szR_neg hs'] at hsz
    clear hto
    go_enter Try.func3, Try.ntmps3
    go_wp2_with fail
    refine (hsz _ (later1 _ _)).mono ?_
    rintro e w1 ⟨rfl, l1⟩
    go_wp2_with fail
    go_ret
    exact ⟨rfl, (later1 _ _).trans l1⟩
end Go.Proofs.Ythammngddmkhhaa
