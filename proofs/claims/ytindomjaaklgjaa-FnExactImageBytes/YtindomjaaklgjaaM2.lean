/- The law of ImageBytes, for every image. -/
import Derived.Test.YtindomjaaklgjaaM1
import Derived.Test.YtindomjaaklgjaaT73
import Derived.Test.YtindomjaaklgjaaJ6
import Derived.Test.YtindomjaaklgjaaH4
import Derived.Deep.RegionHeld3
namespace Go.Proofs.Ytindomjaaklgjaa
open Go.RowKit

/-- What both answer: the text, in memory of its own. -/
def IbAns (b : Bool) (out : List Int) (w : World) (e : Ending) (w' : World) : Prop := ∃ a M c, e = .returned (.tuple #[.slice a M c, .bool b]) ∧ Later w w' ∧ AnsK .u8 w.heap.size w' (.slice a M c) out ∧ Hid (M = out.length)
theorem bxcell {w w' : World} {g o : Nat} {u : Value} (h : w.cell? ⟨g, o, none⟩ = some u) (hg : g < w.heap.size) (l : Later w w') : w'.cell? ⟨g, o, none⟩ = some u := by rw [Below.cell l (p := ⟨g, o, none⟩) hg]; exact h
set_option maxRecDepth 20000 in
set_option maxHeartbeats 8000000 in
theorem lawimby_of (x : Im) (ok : Bool) (out : List Int) (hol : out.length ≤ 200000) (v0 v1 : Value) (w : World)
    (hI : x.sz ≤ 1048576 → ∀ w', Later w w' → ∀ v0 v1, RdL w' 1 v0 (Bs.dats x.structs) → RdL w' 4 v1 (Cd.dats x.codes) → Calls Try.prog 12 #[.agg #[v0, v1, .int .i64 x.main]] w' (IbAns ok out w'))
    (hS : x.sz ≤ 1048576 → ∀ w' v0 v1, RdL w' 1 v0 (Bs.dats x.structs) → RdL w' 4 v1 (Cd.dats x.codes) → Calls Try.prog 11 #[.agg #[v0, v1, .int .i64 x.main]] w' (IbAns ok out w')) (h0 : RdL w 1 v0 (Bs.dats x.structs)) (h1 : RdL w 4 v1 (Cd.dats x.codes)) :
    Calls Try.prog 4 #[.agg #[v0, v1, .int .i64 x.main]] w fun e w' => e = .returned (.bool true) ∧ Later w w' := by
  have hsz := fun w' (l : Later w w') => szIm_any x v0 v1 1048576 w' (RdL.later l h0) (RdL.later l h1) (by decide) (by decide)
  have hto := fun (hs : x.sz ≤ 1048576) w' (l : Later w w') => toIm_any x v0 v1 w' (RdL.later l h0) (RdL.later l h1) hs
  have hVw := fun w' cs (h : RdD w' x.dat cs) => Im.view h
  have hEq := fun w' u0 u1 v0 v1 (j0 : RdL w' 1 u0 (Bs.dats x.structs)) (j1 : RdL w' 4 u1 (Cd.dats x.codes)) (k0 : RdL w' 1 v0 (Bs.dats x.structs)) (k1 : RdL w' 4 v1 (Cd.dats x.codes)) => eqIm_true x u0 u1 v0 v1 w' j0 j1 k0 k1
  have hMk := fun (P : Nat → Prop) u0 u1 k w' h0 h1 hk0 hk1 => markIm_sk (P := P) x u0 u1 k w' h0 h1 hk0 hk1
  obtain ⟨a0, p0, rfl, _⟩ := Bs.slice h0
  obtain ⟨a1, p1, rfl, _⟩ := Cd.slice h1
  clear h0 h1
  generalize x.main = zm at *
  by_cases hs : x.sz ≤ 1048576
  · have hs' : ((x.sz : Nat) : Int) ≤ 1048576 := by omega
    rw [szR_pos hs'] at hsz
    have hto' := hto hs
    have hI := hI hs
    have hS := hS hs
    have n0 : ¬ (1048576 : Int) - ((x.sz : Nat) : Int) < 0 := by omega
    have hbb : (ok != ok) = false := by simp
    clear hto
    go_enter Try.func4, Try.ntmps4
    go_wp2_with fail
    refine (hsz _ (later1 _ _)).mono ?_
    rintro e w1 ⟨rfl, l1⟩
    have L1 : Later w w1 := (later1 _ _).trans l1
    have y0 : w1.cell? ⟨w.heap.size, 0, none⟩ = some (.slice a0 x.structs.length p0) := by rw [Below.cell l1 (p := ⟨w.heap.size, 0, none⟩) (by simp)]; simp
    have y1 : w1.cell? ⟨w.heap.size, 1, none⟩ = some (.slice a1 x.codes.length p1) := by rw [Below.cell l1 (p := ⟨w.heap.size, 1, none⟩) (by simp)]; simp
    have y2 : w1.cell? ⟨w.heap.size, 2, none⟩ = some (.int .i64 zm) := by rw [Below.cell l1 (p := ⟨w.heap.size, 2, none⟩) (by simp)]; simp
    have z1 : w.heap.size < w1.heap.size := by have := l1.size; simp at this; omega
    clear l1 hsz
    go_wp2_with fail
    refine (hto' _ L1).mono ?_
    rintro e w2 ⟨b0, q0, b1, q1, F2, rfl, O2, l2⟩
    obtain ⟨_, _, e2, r20, r21⟩ := hVw _ _ O2.rd
    cases e2
    have y0 := bxcell y0 z1 l2
    have y1 := bxcell y1 z1 l2
    have y2 := bxcell y2 z1 l2
    have z2 : w.heap.size < w2.heap.size := by have := l2.size; omega
    have L2 := L1.trans l2
    clear l2 O2
    go_wp2_with fail
    refine (hS w2 _ _ r20 r21).mono ?_
    rintro e w3 ⟨a3, M3, c3, rfl, l3, A3, hM3⟩
    have y0 := bxcell y0 z2 l3
    have y1 := bxcell y1 z2 l3
    have y2 := bxcell y2 z2 l3
    have z3 : w.heap.size < w3.heap.size := by have := l3.size; omega
    have L3 := L2.trans l3
    have R3 := A3.rd
    clear l3 r20 r21 hS A3
    go_wp2_with fail
    refine (hto' _ L3).mono ?_
    rintro e w4 ⟨b4, q4, b5, q5, F4, rfl, O4, l4⟩
    obtain ⟨_, _, e4, r40, r41⟩ := hVw _ _ O4.rd
    cases e4
    have hSk := O4.sk
    obtain ⟨_, _, _, _, _, e4', s40, s41⟩ := Im.skView hSk
    cases e4'
    have y0 := bxcell y0 z3 l4
    have y1 := bxcell y1 z3 l4
    have y2 := bxcell y2 z3 l4
    have z4 : w.heap.size < w4.heap.size := by have := l4.size; omega
    have s34 := l4.size
    have L4 := L3.trans l4
    have T4 := l4
    clear l4 O4 hSk
    go_wp2_with fail
    refine (hI _ (L4.trans (later1 _ _)) _ _ (RdL.later (later1 _ _) r40) (RdL.later (later1 _ _) r41)).mono ?_
    rintro e w5 ⟨a5, M5, c5, rfl, l5, A5, hM5⟩
    have M45 := (later1 w4 _).trans l5
    have L5 := L4.trans M45
    have T5 := T4.trans M45
    have y0 := bxcell y0 z4 M45
    have y1 := bxcell y1 z4 M45
    have y2 := bxcell y2 z4 M45
    have x0 : w5.cell? ⟨w4.heap.size, 0, none⟩ = some (.slice b4 x.structs.length q4) := by rw [Below.cell l5 (p := ⟨w4.heap.size, 0, none⟩) (by simp)]; simp
    have x1 : w5.cell? ⟨w4.heap.size, 1, none⟩ = some (.slice b5 x.codes.length q5) := by rw [Below.cell l5 (p := ⟨w4.heap.size, 1, none⟩) (by simp)]; simp
    have x2 : w5.cell? ⟨w4.heap.size, 2, none⟩ = some (.int .i64 zm) := by rw [Below.cell l5 (p := ⟨w4.heap.size, 2, none⟩) (by simp)]; simp
    have zz5 : w4.heap.size < w5.heap.size := by have := l5.size; simp at this; omega
    have z5 : w.heap.size < w5.heap.size := by omega
    have A5 : AnsK .u8 (w4.heap.size + 1) w5 (.slice a5 M5 c5) out := by simpa using A5
    clear l5
    go_wp2_with fail
    refine (eqc_same A5.rd (R3.later T5)).mono ?_
    rintro e w6 ⟨rfl, l6⟩
    have L6 := L5.trans l6
    have M46 := M45.trans l6
    have T6 := T5.trans l6
    have A6 := A5.later l6
    have y0 := bxcell y0 z5 l6
    have y1 := bxcell y1 z5 l6
    have y2 := bxcell y2 z5 l6
    have x0 := bxcell x0 zz5 l6
    have x1 := bxcell x1 zz5 l6
    have x2 := bxcell x2 zz5 l6
    have zz6 : w4.heap.size < w6.heap.size := by have := l6.size; omega
    have z6 : w.heap.size < w6.heap.size := by omega
    clear l6 A5 L5 M45 T5
    have hE := fun w' v0 v1 (l : Later w6 w') (k0 : RdL w' 1 v0 (Bs.dats x.structs)) (k1 : RdL w' 4 v1 (Cd.dats x.codes)) => hEq w' _ _ v0 v1 (RdL.later (M46.trans l) r40) (RdL.later (M46.trans l) r41) k0 k1
    have HS : Hid (∀ w', Later w6 w' → (Later w6 w' ∧ w'.cell? ⟨w.heap.size, 0, none⟩ = some (.slice a0 x.structs.length p0) ∧ w'.cell? ⟨w.heap.size, 1, none⟩ = some (.slice a1 x.codes.length p1) ∧ w'.cell? ⟨w.heap.size, 2, none⟩ = some (.int .i64 zm) ∧ w'.cell? ⟨w4.heap.size, 0, none⟩ = some (.slice b4 x.structs.length q4) ∧ w'.cell? ⟨w4.heap.size, 1, none⟩ = some (.slice b5 x.codes.length q5) ∧ w'.cell? ⟨w4.heap.size, 2, none⟩ = some (.int .i64 zm))) := fun w' ll => ⟨ll, bxcell y0 z6 ll, bxcell y1 z6 ll, bxcell y2 z6 ll, bxcell x0 zz6 ll, bxcell x1 zz6 ll, bxcell x2 zz6 ll⟩
    -- what comes behind the region, at any later world
    have HM : Hid (∀ w', Later w6 w' → Calls Try.prog 14 #[.agg #[.slice b4 x.structs.length q4, .slice b5 x.codes.length q5, .int .i64 zm], .int .i64 1] w' (MkQ (fun b => w3.heap.size ≤ b ∧ b < w4.heap.size) w' 1 (16 * x.sz))) := fun w' ll => hMk _ _ _ 1 w' (s40.slice_inks (Inks.later (M46.trans ll))) (s41.slice_inks (Inks.later (M46.trans ll))) (by decide) (by omega)
    clear r40 r41 s40 s41
    go_wp2_with fail
    go_region_held3 (fun w' => Later w6 w' ∧ w'.cell? ⟨w.heap.size, 0, none⟩ = some (.slice a0 x.structs.length p0) ∧ w'.cell? ⟨w.heap.size, 1, none⟩ = some (.slice a1 x.codes.length p1) ∧ w'.cell? ⟨w.heap.size, 2, none⟩ = some (.int .i64 zm) ∧ w'.cell? ⟨w4.heap.size, 0, none⟩ = some (.slice b4 x.structs.length q4) ∧ w'.cell? ⟨w4.heap.size, 1, none⟩ = some (.slice b5 x.codes.length q5) ∧ w'.cell? ⟨w4.heap.size, 2, none⟩ = some (.int .i64 zm)) (first | exact HS.out _ (Later.drew _) | exact HS.out _ ((Later.drew _).trans l7) | exact HS.out _ (((Later.drew _).trans l7).trans l8)) (first | (go_at_call 8; refine (hto' _ (L6.trans (Later.drew _))).mono ?_; rintro e w7 ⟨b6, q6, b7, q7, F6, rfl, O6, l7⟩; obtain ⟨_, _, e6, r60, r61⟩ := hVw _ _ O6.rd; cases e6) | (go_at_call 10; refine (hE _ _ _ ((Later.drew _).trans l7) r60 r61).mono ?_; rintro e w8 ⟨rfl, l8⟩))
    all_goals
      have l68 := ((Later.drew _).trans l7).trans l8
      obtain ⟨_, y0, y1, y2, x0, x1, x2⟩ := HS.out _ l68
      have L8 := L6.trans l68
      have T8 := T6.trans l68
      have A8 := A6.later l68
      have HM8 := HM.out _ l68
      have z8 : w.heap.size < w8.heap.size := Nat.lt_of_lt_of_le z6 l68.size
      have s38 : w3.heap.size ≤ w8.heap.size := T8.size
      clear HS HM hE l68
      go_wp2_with fail
      refine HM8.mono ?_
      rintro e w9 ⟨k9, rfl, hk9, _, J9⟩
      have T9 : Later w3 w9 := Below.cut T8 (J9.below (fun b hb => hb.1) s38)
      have L9 := L3.trans T9
      have A9 : AnsK .u8 (w4.heap.size + 1) w9 (.slice a5 M5 c5) out := A8.keep J9.size (fun b hb hb' => J9.block b hb' (fun hp => by have := hp.2; omega))
      have y0 : w9.cell? ⟨w.heap.size, 0, none⟩ = some (.slice a0 x.structs.length p0) := J9.slice z8 y0
      have y1 : w9.cell? ⟨w.heap.size, 1, none⟩ = some (.slice a1 x.codes.length p1) := J9.slice z8 y1
      have y2 : w9.cell? ⟨w.heap.size, 2, none⟩ = some (.int .i64 zm) := by
        have e := J9.block w.heap.size z8 (fun hp => by have := hp.1; omega)
        rw [(cell_block e 2).1]; exact y2
      have i9 : ¬ k9 < 0 := by omega
      have z9 : w.heap.size < w9.heap.size := Nat.lt_of_lt_of_le z8 J9.size
      have s49 : w3.heap.size ≤ w9.heap.size := T9.size
      clear J9 A8 HM8 T8 L8
      go_wp2_with fail
      refine (eqc_same A9.rd (R3.later T9)).mono ?_
      rintro e w10 ⟨rfl, l10⟩
      have A10 := A9.later l10
      have T10 := T9.trans l10
      have y0 := bxcell y0 z9 l10
      have y1 := bxcell y1 z9 l10
      have y2 := bxcell y2 z9 l10
      have z10 : w.heap.size < w10.heap.size := Nat.lt_of_lt_of_le z9 l10.size
      clear l10 A9 T9
      go_wp2_with fail
      refine (markb_ans A10).mono ?_
      rintro e w11 ⟨rfl, B11, K11⟩
      have T11 : Later w3 w11 := Below.cut T10 (Below.less B11 (by omega))
      have L11 := L3.trans T11
      have y0 : w11.cell? ⟨w.heap.size, 0, none⟩ = some (.slice a0 x.structs.length p0) := by rw [Below.cell B11 (p := ⟨w.heap.size, 0, none⟩) (show w.heap.size < w4.heap.size + 1 by omega)]; exact y0
      have y1 : w11.cell? ⟨w.heap.size, 1, none⟩ = some (.slice a1 x.codes.length p1) := by rw [Below.cell B11 (p := ⟨w.heap.size, 1, none⟩) (show w.heap.size < w4.heap.size + 1 by omega)]; exact y1
      have y2 : w11.cell? ⟨w.heap.size, 2, none⟩ = some (.int .i64 zm) := by rw [Below.cell B11 (p := ⟨w.heap.size, 2, none⟩) (show w.heap.size < w4.heap.size + 1 by omega)]; exact y2
      have hml : out.length ≤ 200000 := hol
      rw [← hM5.out] at K11 hml
      rw [← hM5.out]
      clear A10 B11 T10
      have hm0 : ¬ 1 + (M5 : Int) < 0 := by omega
      have hmm : ((1 + (M5 : Int)) != (1 + (M5 : Int))) = false := by simp
      go_wp2_with fail
      refine (heldb_ans K11).mono ?_
      rintro e w11' ⟨rfl, hw⟩
      obtain rfl := hw.symm
      clear hw
      go_wp2_with fail
      refine (hto' _ L11).mono ?_
      rintro e w12 ⟨b8, q8, b9, q9, F12, rfl, O12, l12⟩
      obtain ⟨_, _, e12, r120, r121⟩ := hVw _ _ O12.rd
      cases e12
      have L12 := L11.trans l12
      have T12 := T11.trans l12
      have K12 := K11.later l12
      clear O12 l12 K11 T11
      go_wp2_with fail
      refine (hI _ L12 _ _ r120 r121).mono ?_
      rintro e w13 ⟨a13, M13, c13, rfl, l13, A13, hM13⟩
      have L13 := L12.trans l13
      have T13 := T12.trans l13
      have K13 := K12.later l13
      clear r120 r121 l13 K12 T12
      go_wp2_with fail
      refine (eqc_same A13.rd (R3.later T13)).mono ?_
      rintro e w14 ⟨rfl, l14⟩
      have K14 := K13.later l14
      have L14 := L13.trans l14
      clear A13 l14 T13 K13
      go_wp2_with fail
      refine (heldb_ans K14).mono ?_
      rintro e w14' ⟨rfl, hw⟩
      obtain rfl := hw.symm
      clear hw
      go_wp2_with fail
      go_ret
      exact ⟨rfl, L14⟩
  · have hs' : ¬ ((x.sz : Nat) : Int) ≤ 1048576 := by omega
    rw [szR_neg hs'] at hsz
    clear hto
    go_enter Try.func4, Try.ntmps4
    go_wp2_with fail
    refine (hsz _ (later1 _ _)).mono ?_
    rintro e w1 ⟨rfl, l1⟩
    go_wp2_with fail
    go_ret
    exact ⟨rfl, (later1 _ _).trans l1⟩

theorem lawimby_any (x : Im) (v0 v1 : Value) (w : World) (hok : ∀ c ∈ x.codes, ∀ y ∈ c.ins, y.Ok) (h0 : RdL w 1 v0 (Bs.dats x.structs)) (h1 : RdL w 4 v1 (Cd.dats x.codes)) :
    Calls Try.prog 4 #[.agg #[v0, v1, .int .i64 x.main]] w fun e w' => e = .returned (.bool true) ∧ Later w w' := by
  have yes : ∀ w' e w2, (∃ v, e = Ending.returned (.tuple #[v, .bool true]) ∧ Bf w' w' w2 v (imL x)) → (imL x).length ≤ 200000 → IbAns true (imL x) w' e w2 := fun w' e w2 ⟨v, he, b⟩ hl => by
    subst he
    have A := AnsK.of_row (q := .u8) b.1 (by omega)
    obtain ⟨a, M, c, rfl, hM⟩ := A.shape
    exact ⟨a, M, c, rfl, b.2, A, hM⟩
  refine lawimby_of x (imB x) (if imB x then imL x else []) ?_ v0 v1 w ?_ ?_ h0 h1
  · cases hb : imB x with
    | false => simp
    | true =>
      have hM : imSz x ≤ 200000 := by unfold imB at hb; rw [Bool.and_eq_true, decide_eq_true_eq] at hb; exact hb.2
      rw [if_pos rfl, imL_len]; exact hM
  · intro hs w' _ u0 u1 k0 k1
    cases hb : imB x with
    | false => exact (ibytes_no x u0 u1 w' k0 k1 hs hb).mono (fun e w2 ⟨he, l⟩ => ⟨none, 0, 0, he, l, AnsK.nil _ _ _, show _ = _ from rfl⟩)
    | true =>
      have e0 : imB0 x = true := by unfold imB at hb; rw [Bool.and_eq_true] at hb; exact hb.1
      have hM : imSz x ≤ 200000 := by unfold imB at hb; rw [Bool.and_eq_true, decide_eq_true_eq] at hb; exact hb.2
      exact (ibytes_any x u0 u1 w' k0 k1 hs hb (imB_rg e0 hok)).mono (fun e w2 h => yes w' e w2 h (by rw [imL_len]; exact hM))
  · intro hs w' u0 u1 k0 k1
    cases hb : imB x with
    | false => exact (sbytes_no x u0 u1 w' k0 k1 hok hs hb).mono (fun e w2 ⟨he, l⟩ => ⟨none, 0, 0, he, l, AnsK.nil _ _ _, show _ = _ from rfl⟩)
    | true =>
      have hM : imSz x ≤ 200000 := by unfold imB at hb; rw [Bool.and_eq_true, decide_eq_true_eq] at hb; exact hb.2
      exact (sbytes_any x u0 u1 w' k0 k1 hok hs hb).mono (fun e w2 h => yes w' e w2 h (by rw [imL_len]; exact hM))
end Go.Proofs.Ytindomjaaklgjaa
