/- The law of ImageRead, for every text of bytes. -/
import Derived.Test.YtlfkjjnhlkaipaaX4m
import Derived.Test.YtlfkjjnhlkaipaaV11
import Derived.Test.YtlfkjjnhlkaipaaW1m
namespace Go.Proofs.Ytlfkjjnhlkaipaa
open Go.RowKit Go.Lib Go.Maps

theorem Wrote.onlyF {w w' : World} {g off : Nat} {k : Int} {n : Nat} (h : Wrote w w' (bmarks g off k n)) : OnlyF [g] w w' := by
  refine ⟨h.os, h.tape, h.output, Nat.le_of_eq h.size.symm, fun b _ hn => ?_⟩
  exact h.block b (fun p hp => by obtain ⟨j, _, e, _⟩ := bmarks_mem hp; rw [e]; exact fun q => hn (List.mem_singleton.2 q.symm))
theorem OnlyF.below {B : Nat} {F : List Nat} {w w' : World} (h : OnlyF F w w') (hB : ∀ b ∈ F, B ≤ b) (hs : B ≤ w.heap.size) : Below B w w' := ⟨h.os, h.tape, h.output, h.size, fun k hk => h.block k (by omega) (fun q => by have := hB k q; omega)⟩
theorem Bxx.onlyF {w w' : World} {b : Nat} {xs : List Value} {F : List Nat} (h : Bxx w b xs) (ho : OnlyF F w w') (hb : b ∉ F) : Bxx w' b xs := h.kept ho.size (ho.block b h.lt hb)
/-- The read image takes few marks. -/
theorem cn_le (x : Im) : x.cn ≤ 5 * (imL x).length := by
  have hb : ∀ l : List Bs, cnt Bs.c1 l ≤ (bssL l).length := fun l => by
    induction l with
    | nil => exact Nat.le_refl _
    | cons y r ih =>
      rw [cnt, bssL, List.length_append]
      have : Bs.c1 y ≤ (bsL y).length := by unfold Bs.c1 bsL; rw [List.length_append, List.length_map]; omega
      omega
  have hm : ∀ l : List Ma, cnt Ma.c1 l ≤ (masL l).length := fun l => by
    induction l with
    | nil => exact Nat.le_refl _
    | cons y r ih =>
      rw [cnt, masL, List.length_append]
      have : Ma.c1 y ≤ (maL y).length := by
        have e : y.sz = y.slots.length := by obtain ⟨_, _⟩ := y; rfl
        unfold Ma.c1
        rw [maL_len, e]
        omega
      omega
  have hc : ∀ l : List Cd, cnt Cd.c1 l ≤ 5 * (cdsL l).length := fun l => by
    induction l with
    | nil => exact Nat.le_refl _
    | cons y r ih =>
      rw [cnt, cdsL, List.length_append]
      have h1 := hm y.maps
      have : Cd.c1 y ≤ (cdL y).length := by unfold Cd.c1 cdL; simp only [List.length_append, twoL_len, insL_len]; omega
      omega
  have h1 := hb x.structs
  have h2 := hc x.codes
  unfold Im.cn imL
  simp only [List.length_append]
  omega
theorem irR_cn (zs : List Int) : (irR zs).1.cn ≤ 1000000 := by
  unfold irR
  split
  · decide
  · split
    · rename_i h
      rw [Bool.and_eq_true, decide_eq_true_eq] at h
      have := cn_le (rdIm ⟨zs, false⟩).1
      dsimp only
      rw [h.2] at this
      omega
    · decide
set_option maxRecDepth 20000 in
set_option maxHeartbeats 8000000 in
theorem lawimrd_of (HS : ∀ (zs : List Int) (g off cap : Nat) (w : World), (∀ z ∈ zs, 0 ≤ z ∧ z ≤ 255) → g < w.heap.size → zs.length ≤ cap → cap ≤ 1048576 → (∀ j (h : j < zs.length), w.cell? ⟨g, off + j, none⟩ = some (.int .u8 zs[j])) → Calls Try.prog 8 #[.slice (some ⟨g, off, none⟩) zs.length cap] w (IrP w (irM zs)))
    (v : Value) (zs : List Int) (w : World) (h : RdB w v zs) : Calls Try.prog 4 #[v] w fun e w' => e = .returned (.bool true) ∧ Later w w' := by
  have hby := of_isB h.isB
  by_cases hs : zs.length ≤ 1048576
  rotate_left
  · have hi : (1048576 : Int) < (zs.length : Int) := by omega
    obtain ⟨a, c, rfl, _⟩ := h.slice
    clear h hby HS
    generalize zs.length = N at *
    go_enter Try.func4, Try.ntmps4
    go_wp2_with fail
    go_ret
    exact ⟨rfl, Later.refl _⟩
  · have hi : ¬ (1048576 : Int) < (zs.length : Int) := by omega
    have hsame := ir_same hby
    obtain ⟨r, hr⟩ := hidx (irR zs)
    obtain ⟨x, hx⟩ := hidx r.1
    obtain ⟨ok, hok⟩ := hidx r.2
    have hcn : x.cn ≤ 1000000 := by rw [hx.out, hr.out]; exact irR_cn zs
    have hob : (ok != ok) = false := by simp
    have HTO := fun w' (l : Later w w') => tob_any v zs w' hs (h.later l)
    have HCS : Hid (∀ (base g : Nat) (w' : World), w'.ownsRow base 5 1 (.slice (some ⟨g, 0, none⟩) zs.length zs.length) zs.length (zs.map (Value.int .u8)) → ∀ w2, Later w' w2 → g < w2.heap.size ∧ ∀ j (h : j < zs.length), w2.cell? ⟨g, 0 + j, none⟩ = some (.int .u8 zs[j])) := fun base g w' ho w2 l => by
      have hg := (ho.lt g rfl).2
      refine ⟨Nat.lt_of_lt_of_le hg l.size, fun j hj => ?_⟩
      rw [Nat.zero_add, Below.cell l (p := ⟨g, j, none⟩) hg, ho.cellAt j (by omega), List.getElem?_map, List.getElem?_eq_getElem hj]
      rfl
    have HIS := fun g w' (hg : g < w'.heap.size) (hc : ∀ j (h : j < zs.length), w'.cell? ⟨g, 0 + j, none⟩ = some (.int .u8 zs[j])) => HS zs g 0 zs.length w' hby hg (Nat.le_refl _) hs hc
    have HII := fun g w' (hg : g < w'.heap.size) (hc : ∀ j (h : j < zs.length), w'.cell? ⟨g, 0 + j, none⟩ = some (.int .u8 zs[j])) => iread_any zs g 0 zs.length w' hby hg (Nat.le_refl _) hs hc
    rw [hsame, ← hr.out] at HIS
    rw [← hr.out] at HII
    have HEQ := fun w' u0 u1 v0 v1 (j0 : RdL w' 1 u0 (Bs.dats x.structs)) (j1 : RdL w' 4 u1 (Cd.dats x.codes)) (k0 : RdL w' 1 v0 (Bs.dats x.structs)) (k1 : RdL w' 4 v1 (Cd.dats x.codes)) => eqIm_true x u0 u1 v0 v1 w' j0 j1 k0 k1
    have HVW : Hid (∀ w' a b n m c d z base F, Own base w' x.dat [.slice a n c, .slice b m d, .int .i64 z] F → RdL w' 1 (.slice a n c) (Bs.dats x.structs) ∧ RdL w' 4 (.slice b m d) (Cd.dats x.codes)) := fun w' a b n m c d z base F ho => by
      obtain ⟨u0, u1, e, r0, r1⟩ := Im.view ho.rd
      simp only [List.cons.injEq, and_true] at e
      obtain ⟨rfl, rfl, _⟩ := e
      exact ⟨r0, r1⟩
    obtain ⟨av, cv, rfl, _⟩ := h.slice
    clear h hsame HS
    go_enter Try.func4, Try.ntmps4
    go_wp2_with fail
    refine (HTO _ (Later.refl _)).mono ?_
    rintro e w1 ⟨rfl, p1, l1⟩
    obtain ⟨g1, k1⟩ := HCS.out _ _ _ p1 w1 (Later.refl _)
    go_wp2_with fail
    refine (HIS _ _ g1 k1).mono ?_
    rintro e w2 ⟨zm, a2, c2, n2, b2, d2, m2, F2, rfl, hN2, hO2, l2⟩
    rw [← hx.out] at hN2 hO2
    rw [← hok.out]
    obtain ⟨rfl, rfl, rfl⟩ := hN2
    have hF2 : ∀ b ∈ F2, b < w2.heap.size := fun b hb => (hO2.fresh b hb).2
    obtain ⟨W, hW⟩ := hidx w2.heap.size
    obtain ⟨w3, hw3⟩ := hidx (w2.alloc (.cells #[.slice a2 x.structs.length c2, .slice b2 x.codes.length d2, .int .i64 x.main] 32))
    have l3 : Later w2 w3 := by rw [hw3.out]; exact later1 _ _
    have s3 : w3.heap.size = W + 1 := by rw [hw3.out, hW.out]; simp
    have hbW : Bxx w3 W [.slice a2 x.structs.length c2, .slice b2 x.codes.length d2, .int .i64 x.main] := by rw [hw3.out, hW.out]; exact Bxx.new _ _ _
    have L3 : Later w w3 := (l1.trans l2).trans l3
    have S3 := hO2.later l3
    go_wp2_with fail
    rw [← hw3.out, ← hW.out]
    refine (HTO _ L3).mono ?_
    rintro e w4 ⟨rfl, p4, l4⟩
    obtain ⟨X, hX⟩ := hidx w3.heap.size
    rw [← hX.out] at p4 ⊢
    obtain ⟨g4, k4⟩ := HCS.out _ _ _ p4 w4 (Later.refl _)
    have hXw : w.heap.size ≤ X := by rw [hX.out]; exact L3.size
    have hWX : W < X := by rw [hX.out, s3]; exact Nat.lt_succ_self _
    have hF2X : ∀ b ∈ F2, b < X := fun b hb => by have := hF2 b hb; have := l3.size; rw [hX.out]; omega
    have hX4 : X < w4.heap.size := g4
    clear s3
    go_wp2_with fail
    refine (HII _ _ g4 k4).mono ?_
    rintro e w5 ⟨zm, a5, c5, n5, b5, d5, m5, F5, rfl, hN5, hO5, l5⟩
    rw [← hx.out] at hN5 hO5
    rw [← hok.out]
    obtain ⟨rfl, rfl, rfl⟩ := hN5
    have hF5 : ∀ b ∈ F5, X < b ∧ b < w5.heap.size := fun b hb => by have := hO5.fresh b hb; omega
    obtain ⟨G, hG⟩ := hidx w5.heap.size
    obtain ⟨w6, hw6⟩ := hidx (w5.alloc (.cells #[.slice a5 x.structs.length c5, .slice b5 x.codes.length d5, .int .i64 x.main] 32))
    have l6 : Later w5 w6 := by rw [hw6.out]; exact later1 _ _
    have hbG : Bxx w6 G [.slice a5 x.structs.length c5, .slice b5 x.codes.length d5, .int .i64 x.main] := by rw [hw6.out, hG.out]; exact Bxx.new _ _ _
    have hGX : X < G := by rw [hG.out]; exact Nat.lt_of_lt_of_le hX4 l5.size
    have hGF : G ∉ F5 := fun q => by have := (hF5 G q).2; rw [← hG.out] at this; omega
    have L36 : Later w3 w6 := (l4.trans l5).trans l6
    have L6 := L3.trans L36
    have S6 := S3.later L36
    have G6 := hO5.later l6
    have W6 := hbW.later L36
    have P6 := later_ownb p4 (l5.trans l6)
    have W5 := hbW.later (l4.trans l5)
    have y0 := (W5.cell 0 _ rfl).1
    have y1 := (W5.cell 1 _ rfl).1
    have y2 := (W5.cell 2 _ rfl).1
    have yl := W5.lt
    go_wp2_with fail
    rw [← hw6.out, ← hG.out]
    refine (HEQ _ _ _ _ _ (HVW.out _ _ _ _ _ _ _ _ _ _ G6).1 (HVW.out _ _ _ _ _ _ _ _ _ _ G6).2 (HVW.out _ _ _ _ _ _ _ _ _ _ S6).1 (HVW.out _ _ _ _ _ _ _ _ _ _ S6).2).mono ?_
    rintro e w7 ⟨rfl, l7⟩
    clear y0 y1 y2 yl
    go_wp2_with fail
    refine (HTO _ (L6.trans l7)).mono ?_
    rintro e w8 ⟨rfl, p8, l8⟩
    have R8 := row_rdb (later_ownb P6 (l7.trans l8)) hby (by omega)
    have Q8 := row_rdb p8 hby (by omega)
    go_wp2_with fail
    refine (eqb_b (b := true) (show _ = _ from decide_eq_true rfl) R8 Q8).mono ?_
    rintro e w9 ⟨rfl, l9⟩
    have M9 := (l7.trans l8).trans l9
    have P9 := later_ownb P6 M9
    have HMB := markb_any X 0 zs.length zs.length 1 w9 (by decide) (by omega) (fun j hj => ⟨_, by rw [Nat.zero_add, P9.cellAt j (by omega), List.getElem?_map, List.getElem?_eq_getElem hj]; rfl⟩) (fun j _ => by rw [Nat.zero_add]; exact P9.frozenAt j)
    clear R8 Q8 p8
    go_wp2_with fail
    refine HMB.mono ?_
    rintro e w10 ⟨rfl, wr10⟩
    have o10 := wr10.onlyF
    have S10 := (S6.later M9).only o10 (fun b hb q => by have := hF2X b hb; rw [List.mem_singleton.1 q] at this; omega)
    have G10 := (G6.later M9).only o10 (fun b hb q => by have := hF5 b hb; rw [List.mem_singleton.1 q] at this; omega)
    have W10 := (W6.later M9).onlyF o10 (fun q => by have := List.mem_singleton.1 q; omega)
    have B10 := (hbG.later M9).onlyF o10 (fun q => by have := List.mem_singleton.1 q; omega)
    have L10 : Later w w10 := Below.trans (L6.trans M9) (o10.below (fun b hb => by rw [List.mem_singleton.1 hb]; exact hXw) (L6.trans M9).size)
    have i10 : ¬ (1 : Int) + (zs.length : Int) < 0 := by omega
    clear HMB wr10 P9 P6 p4 S6 G6 W6 hbG hbW S3 hO2 hO5
    have u0 := (B10.cell 0 _ rfl).1
    have u1 := (B10.cell 1 _ rfl).1
    have u2 := (B10.cell 2 _ rfl).1
    have ul := B10.lt
    have y0 := (W10.cell 0 _ rfl).1
    have y1 := (W10.cell 1 _ rfl).1
    have y2 := (W10.cell 2 _ rfl).1
    have yl := W10.lt
    go_wp2_with fail
    refine (HEQ _ _ _ _ _ (HVW.out _ _ _ _ _ _ _ _ _ _ G10).1 (HVW.out _ _ _ _ _ _ _ _ _ _ G10).2 (HVW.out _ _ _ _ _ _ _ _ _ _ S10).1 (HVW.out _ _ _ _ _ _ _ _ _ _ S10).2).mono ?_
    rintro e w11 ⟨rfl, l11⟩
    clear u0 u1 u2 ul y0 y1 y2 yl
    have B11 := B10.later l11
    have G11 := G10.later l11
    have u0 := (B11.cell 0 _ rfl).1
    have u1 := (B11.cell 1 _ rfl).1
    have u2 := (B11.cell 2 _ rfl).1
    have ul := B11.lt
    go_wp2_with fail
    refine (markIm_x x _ _ _ _ 1 w11 G11 (by decide) (by omega)).mono ?_
    rintro e w12 ⟨rfl, t12, o12⟩
    clear u0 u1 u2 ul
    have S12 := (S10.later l11).only o12 (fun b hb q => by have := hF2X b hb; have := hF5 b q; omega)
    have W12 := (W10.later l11).onlyF o12 (fun q => by have := hF5 W q; omega)
    have B12 := B11.onlyF o12 hGF
    have L12 : Later w w12 := Below.trans (L10.trans l11) (o12.below (fun b hb => by have := (hF5 b hb).1; omega) (L10.trans l11).size)
    obtain ⟨z0, z1, ez, r0, r1⟩ := Im.view t12.rd
    simp only [List.cons.injEq, and_true] at ez
    obtain ⟨ez0, ez1, ez2⟩ := ez
    rw [← ez0] at r0
    rw [← ez1] at r1
    clear ez0 ez1 ez2
    have HHE := fun w' (l : Later w12 w') => heldIm_x x _ _ 1 w' (RdL.later l r0) (RdL.later l r1) (by decide) (by omega)
    have u0 := (B12.cell 0 _ rfl).1
    have u1 := (B12.cell 1 _ rfl).1
    have u2 := (B12.cell 2 _ rfl).1
    have ul := B12.lt
    go_wp2_with fail
    refine (HHE _ (Later.refl _)).mono ?_
    rintro e w13 ⟨rfl, l13⟩
    clear u0 u1 u2 ul
    have i13 : ¬ (1 : Int) + (x.cn : Int) < 0 := by omega
    have j13 : (((1 : Int) + (x.cn : Int)) != ((1 : Int) + (x.cn : Int))) = false := by simp
    go_wp2_with fail
    refine (HTO _ (L12.trans l13)).mono ?_
    rintro e w14 ⟨rfl, p14, l14⟩
    obtain ⟨g14, k14⟩ := HCS.out _ _ _ p14 w14 (Later.refl _)
    go_wp2_with fail
    refine (HII _ _ g14 k14).mono ?_
    rintro e w15 ⟨zm, a7, c7, n7, b7, d7, m7, F7, rfl, hN7, hO7, l15⟩
    rw [← hx.out] at hN7 hO7
    rw [← hok.out]
    obtain ⟨rfl, rfl, rfl⟩ := hN7
    obtain ⟨w16, hw16⟩ := hidx (w15.alloc (.cells #[.slice a7 x.structs.length c7, .slice b7 x.codes.length d7, .int .i64 x.main] 32))
    have l16 : Later w15 w16 := by rw [hw16.out]; exact later1 _ _
    have hbH : Bxx w16 w15.heap.size [.slice a7 x.structs.length c7, .slice b7 x.codes.length d7, .int .i64 x.main] := by rw [hw16.out]; exact Bxx.new _ _ _
    have M16 := ((l13.trans l14).trans l15).trans l16
    have S16 := S12.later M16
    have H16 := hO7.later l16
    have W16 := W12.later M16
    have B16 := B12.later M16
    have W15 := W12.later ((l13.trans l14).trans l15)
    have y0 := (W15.cell 0 _ rfl).1
    have y1 := (W15.cell 1 _ rfl).1
    have y2 := (W15.cell 2 _ rfl).1
    have yl := W15.lt
    go_wp2_with fail
    rw [← hw16.out]
    refine (HEQ _ _ _ _ _ (HVW.out _ _ _ _ _ _ _ _ _ _ H16).1 (HVW.out _ _ _ _ _ _ _ _ _ _ H16).2 (HVW.out _ _ _ _ _ _ _ _ _ _ S16).1 (HVW.out _ _ _ _ _ _ _ _ _ _ S16).2).mono ?_
    rintro e w17 ⟨rfl, l17⟩
    clear y0 y1 y2 yl
    have B17 := B16.later l17
    have u0 := (B17.cell 0 _ rfl).1
    have u1 := (B17.cell 1 _ rfl).1
    have u2 := (B17.cell 2 _ rfl).1
    have ul := B17.lt
    go_wp2_with fail
    refine (HHE _ (M16.trans l17)).mono ?_
    rintro e w18 ⟨rfl, l18⟩
    have LL := (L12.trans (M16.trans l17)).trans l18
    go_wp2_with fail
    go_ret
    exact ⟨rfl, LL⟩
end Go.Proofs.Ytlfkjjnhlkaipaa
