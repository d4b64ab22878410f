/- ImageOk of the model; the law of ImageOk, for every image. -/
import Derived.Test.YtindomjaaklgjaaG9
import Derived.Test.YtindomjaaklgjaaO1
namespace Go.Proofs.Ytindomjaaklgjaa
open Go.RowKit Go.Lib

set_option maxRecDepth 20000 in
set_option maxHeartbeats 2000000 in
theorem simok_b (x : Im) (sv cv : Value) (w : World) (h0 : RdL w 1 sv (Bs.dats x.structs)) (h1 : RdL w 4 cv (Cd.dats x.codes)) (hok : ∀ c ∈ x.codes, ∀ y ∈ c.ins, y.Ok) (hsz : x.sz ≤ 1048576) {b : Bool} (hb : imB x = b) :
    Calls Try.prog 7 #[.agg #[sv, cv, .int .i64 x.main]] w fun e w' => e = .returned (.bool b) ∧ Later w w' := by
  have HL := fun w' (l : Later w w') (bb : Bool) (h : imB0 x = bb) => lok_b x sv cv w' (RdL.later l h0) (RdL.later l h1) hok h
  have HB : Hid (∀ w', Later w w' → imB0 x = true → Calls Try.prog 24 #[.agg #[sv, cv, .int .i64 x.main]] w' (SayP w' w' (imL x))) := fun w' l h => lbytes_any x sv cv w' (RdL.later l h0) (RdL.later l h1) (imB_rg h hok) hsz
  obtain ⟨a0, p0, rfl, _⟩ := Bs.slice h0
  obtain ⟨a1, p1, rfl, _⟩ := Cd.slice h1
  unfold imB at hb
  have HLn : Hid ((imL x).length = imSz x) := imL_len x
  clear h0 h1 hok
  generalize x.main = zm at *
  cases e0 : imB0 x with
  | false =>
    rw [e0, Bool.false_and] at hb
    subst hb
    have hx := fun w' (l : Later w w') => HL w' l false e0
    clear HL HB
    go_enter Try.func7, Try.ntmps7
    go_wp2_with fail
    refine (hx _ (later1 _ _)).mono ?_
    rintro e w1 ⟨rfl, l1⟩
    clear hx
    go_wp2_with fail
    go_ret
    exact ⟨rfl, (later1 _ _).trans l1⟩
  | true =>
    rw [e0, Bool.true_and] at hb
    have hx := fun w' (l : Later w w') => HL w' l true e0
    have hy := fun w' (l : Later w w') => HB.out w' l e0
    have HD : Hid (∀ n : Nat, n = imSz x → decide ((n : Int) ≤ 200000) = b) := fun n hn => by
      rw [← hb, hn]
      apply decide_eq_decide.2
      omega
    clear HL HB hb
    go_enter Try.func7, Try.ntmps7
    go_wp2_with fail
    refine (hx _ (later1 _ _)).mono ?_
    rintro e w1 ⟨rfl, l1⟩
    have y0 : w1.cell? ⟨w.heap.size, 0, none⟩ = some (.slice a0 x.structs.length p0) := by rw [Below.cell l1 (p := ⟨w.heap.size, 0, none⟩) (by simp)]; simp
    have y1 : w1.cell? ⟨w.heap.size, 1, none⟩ = some (.slice a1 x.codes.length p1) := by rw [Below.cell l1 (p := ⟨w.heap.size, 1, none⟩) (by simp)]; simp
    have y2 : w1.cell? ⟨w.heap.size, 2, none⟩ = some (.int .i64 zm) := by rw [Below.cell l1 (p := ⟨w.heap.size, 2, none⟩) (by simp)]; simp
    have z1 : w.heap.size < w1.heap.size := by have := l1.size; simp at this; omega
    have hy1 := hy w1 ((later1 _ _).trans l1)
    have L1 := (later1 w _).trans l1
    clear hx hy l1
    go_wp2_with fail
    refine hy1.mono ?_
    rintro e w2 ⟨v2, rfl, b2⟩
    obtain ⟨a2, c2, h2⟩ := b2.shape
    obtain ⟨N, hN⟩ := hidq (imL x).length
    rw [← hN.out] at h2
    subst h2
    have HD2 : Hid (decide ((N : Int) ≤ 200000) = b) := HD.out N (by rw [hN.out, HLn.out])
    have l2 := b2.lat
    clear hy1 b2 hN HD HLn
    go_wp2_with fail
    go_ret
    exact ⟨by rw [← HD2.out]; first | rfl | simp, L1.trans l2⟩

set_option maxHeartbeats 4000000 in
theorem lawimok_any (x : Im) (v0 v1 : Value) (w : World) (hok : ∀ c ∈ x.codes, ∀ y ∈ c.ins, y.Ok) (h0 : RdL w 1 v0 (Bs.dats x.structs)) (h1 : RdL w 4 v1 (Cd.dats x.codes)) :
    Calls Try.prog 3 #[.agg #[v0, v1, .int .i64 x.main]] w fun e w' => e = .returned (.bool true) ∧ Later w w' := by
  have hsz := fun w' (l : Later w w') => szIm_any x v0 v1 1048576 w' (RdL.later l h0) (RdL.later l h1) (by decide) (by decide)
  have hto := fun (hs : x.sz ≤ 1048576) w' (l : Later w w') => toIm_any x v0 v1 w' (RdL.later l h0) (RdL.later l h1) hs
  have hS0 := fun (hs : x.sz ≤ 1048576) w' u0 u1 (k0 : RdL w' 1 u0 (Bs.dats x.structs)) (k1 : RdL w' 4 u1 (Cd.dats x.codes)) => simok_b x u0 u1 w' k0 k1 hok hs rfl
  have hI0 := fun (hs : x.sz ≤ 1048576) w' u0 u1 (k0 : RdL w' 1 u0 (Bs.dats x.structs)) (k1 : RdL w' 4 u1 (Cd.dats x.codes)) => iimok_b x u0 u1 w' k0 k1 hs rfl
  have hEq := fun w' u0 u1 v0 v1 (j0 : RdL w' 1 u0 (Bs.dats x.structs)) (j1 : RdL w' 4 u1 (Cd.dats x.codes)) (k0 : RdL w' 1 v0 (Bs.dats x.structs)) (k1 : RdL w' 4 v1 (Cd.dats x.codes)) => eqIm_true x u0 u1 v0 v1 w' j0 j1 k0 k1
  have hVw := fun w' cs (h : RdD w' x.dat cs) => Im.view h
  obtain ⟨a0, p0, rfl, _⟩ := Bs.slice h0
  obtain ⟨a1, p1, rfl, _⟩ := Cd.slice h1
  clear h0 h1 hok
  generalize x.main = zm at *
  generalize imB x = bb at *
  have hbb : (bb != bb) = false := by simp
  by_cases hs : x.sz ≤ 1048576
  · have hs' : ((x.sz : Nat) : Int) ≤ 1048576 := by omega
    rw [szR_pos hs'] at hsz
    have hto' := hto hs
    have hS := hS0 hs
    have hI := hI0 hs
    have n0 : ¬ (1048576 : Int) - ((x.sz : Nat) : Int) < 0 := by omega
    clear hto hS0 hI0
    go_enter Try.func3, Try.ntmps3
    go_wp2_with fail
    refine (hsz _ (later1 _ _)).mono ?_
    rintro e w1 ⟨rfl, l1⟩
    have L1 : Later w w1 := (later1 _ _).trans l1
    have y0 : w1.cell? ⟨w.heap.size, 0, none⟩ = some (.slice a0 x.structs.length p0) := by rw [Below.cell l1 (p := ⟨w.heap.size, 0, none⟩) (by simp)]; simp
    have y1 : w1.cell? ⟨w.heap.size, 1, none⟩ = some (.slice a1 x.codes.length p1) := by rw [Below.cell l1 (p := ⟨w.heap.size, 1, none⟩) (by simp)]; simp
    have y2 : w1.cell? ⟨w.heap.size, 2, none⟩ = some (.int .i64 zm) := by rw [Below.cell l1 (p := ⟨w.heap.size, 2, none⟩) (by simp)]; simp
    have z1 : w.heap.size < w1.heap.size := by have := l1.size; simp at this; omega
    have HY : Hid (∀ w', Later w1 w' → w'.cell? ⟨w.heap.size, 0, none⟩ = some (.slice a0 x.structs.length p0) ∧ w'.cell? ⟨w.heap.size, 1, none⟩ = some (.slice a1 x.codes.length p1) ∧ w'.cell? ⟨w.heap.size, 2, none⟩ = some (.int .i64 zm) ∧ w.heap.size < w'.heap.size) := fun w' l => ⟨by rw [Below.cell l (p := ⟨w.heap.size, 0, none⟩) z1]; exact y0, by rw [Below.cell l (p := ⟨w.heap.size, 1, none⟩) z1]; exact y1, by rw [Below.cell l (p := ⟨w.heap.size, 2, none⟩) z1]; exact y2, Nat.lt_of_lt_of_le z1 l.size⟩
    clear l1 hsz
    go_wp2_with fail
    refine (hto' _ L1).mono ?_
    rintro e w2 ⟨b0, q0, b1, q1, F2, rfl, O2, l2⟩
    obtain ⟨_, _, e2, r20, r21⟩ := hVw _ _ O2.rd
    cases e2
    have M2 := l2
    clear y0 y1 y2 z1 O2 l2
    obtain ⟨y0, y1, y2, z2⟩ := HY.out w2 M2
    go_wp2_with fail
    refine (hS w2 _ _ r20 r21).mono ?_
    rintro e w3 ⟨rfl, l3⟩
    have M3 := M2.trans l3
    clear l3 r20 r21 y0 y1 y2 z2 hS M2
    obtain ⟨y0, y1, y2, z3⟩ := HY.out w3 M3
    go_wp2_with fail
    refine (hto' _ (L1.trans M3)).mono ?_
    rintro e w4 ⟨b4, q4, b5, q5, F4, rfl, O4, l4⟩
    obtain ⟨_, _, e4, r40, r41⟩ := hVw _ _ O4.rd
    cases e4
    have M4 := M3.trans l4
    clear l4 O4 y0 y1 y2 z3 M3
    obtain ⟨y0, y1, y2, z4⟩ := HY.out w4 M4
    go_wp2_with fail
    refine (hI _ _ _ (RdL.later (later1 _ _) r40) (RdL.later (later1 _ _) r41)).mono ?_
    rintro e w5 ⟨rfl, l5⟩
    have N5 := (later1 w4 _).trans l5
    have M5 := M4.trans N5
    have x0 : w5.cell? ⟨w4.heap.size, 0, none⟩ = some (.slice b4 x.structs.length q4) := by rw [Below.cell l5 (p := ⟨w4.heap.size, 0, none⟩) (by simp)]; simp
    have x1 : w5.cell? ⟨w4.heap.size, 1, none⟩ = some (.slice b5 x.codes.length q5) := by rw [Below.cell l5 (p := ⟨w4.heap.size, 1, none⟩) (by simp)]; simp
    have x2 : w5.cell? ⟨w4.heap.size, 2, none⟩ = some (.int .i64 zm) := by rw [Below.cell l5 (p := ⟨w4.heap.size, 2, none⟩) (by simp)]; simp
    have zz5 : w4.heap.size < w5.heap.size := by have := l5.size; simp at this; omega
    clear y0 y1 y2 z4 hI
    obtain ⟨y0, y1, y2, z5⟩ := HY.out w5 M5
    have HS : Hid (∀ w', Later w5 w' → (Later w5 w' ∧ w'.cell? ⟨w.heap.size, 0, none⟩ = some (.slice a0 x.structs.length p0) ∧ w'.cell? ⟨w.heap.size, 1, none⟩ = some (.slice a1 x.codes.length p1) ∧ w'.cell? ⟨w.heap.size, 2, none⟩ = some (.int .i64 zm) ∧ w'.cell? ⟨w4.heap.size, 0, none⟩ = some (.slice b4 x.structs.length q4) ∧ w'.cell? ⟨w4.heap.size, 1, none⟩ = some (.slice b5 x.codes.length q5) ∧ w'.cell? ⟨w4.heap.size, 2, none⟩ = some (.int .i64 zm))) := fun w' ll => ⟨ll, by rw [Below.cell ll (p := ⟨w.heap.size, 0, none⟩) z5]; exact y0, by rw [Below.cell ll (p := ⟨w.heap.size, 1, none⟩) z5]; exact y1, by rw [Below.cell ll (p := ⟨w.heap.size, 2, none⟩) z5]; exact y2, by rw [Below.cell ll (p := ⟨w4.heap.size, 0, none⟩) zz5]; exact x0, by rw [Below.cell ll (p := ⟨w4.heap.size, 1, none⟩) zz5]; exact x1, by rw [Below.cell ll (p := ⟨w4.heap.size, 2, none⟩) zz5]; exact x2⟩
    have L5 := L1.trans M5
    have hE := fun w' u0 u1 (l : Later w5 w') (k0 : RdL w' 1 u0 (Bs.dats x.structs)) (k1 : RdL w' 4 u1 (Cd.dats x.codes)) => hEq w' _ _ u0 u1 (RdL.later (N5.trans l) r40) (RdL.later (N5.trans l) r41) k0 k1
    clear r40 r41 l5 N5 hEq HY M4 M5
    go_wp2_with fail
    go_region_held3 (fun w' => Later w5 w' ∧ w'.cell? ⟨w.heap.size, 0, none⟩ = some (.slice a0 x.structs.length p0) ∧ w'.cell? ⟨w.heap.size, 1, none⟩ = some (.slice a1 x.codes.length p1) ∧ w'.cell? ⟨w.heap.size, 2, none⟩ = some (.int .i64 zm) ∧ w'.cell? ⟨w4.heap.size, 0, none⟩ = some (.slice b4 x.structs.length q4) ∧ w'.cell? ⟨w4.heap.size, 1, none⟩ = some (.slice b5 x.codes.length q5) ∧ w'.cell? ⟨w4.heap.size, 2, none⟩ = some (.int .i64 zm)) (first | exact HS.out _ (Later.drew _) | exact HS.out _ ((Later.drew _).trans l6) | exact HS.out _ (((Later.drew _).trans l6).trans l7)) (first | (go_at_call 8; refine (hto' _ (L5.trans (Later.drew _))).mono ?_; rintro e w6 ⟨b6, q6, b7, q7, F6, rfl, O6, l6⟩; obtain ⟨_, _, e6, r60, r61⟩ := hVw _ _ O6.rd; cases e6) | (go_at_call 10; refine (hE _ _ _ ((Later.drew _).trans l6) r60 r61).mono ?_; rintro e w7 ⟨rfl, l7⟩))
    all_goals
      go_wp2_with fail
      go_ret
      exact ⟨rfl, L5.trans (((Later.drew _).trans l6).trans l7)⟩
  · have hs' : ¬ ((x.sz : Nat) : Int) ≤ 1048576 := by omega
    rw [szR_neg hs'] at hsz
    clear hto hS0 hI0 hEq
    go_enter Try.func3, Try.ntmps3
    go_wp2_with fail
    refine (hsz _ (later1 _ _)).mono ?_
    rintro e w1 ⟨rfl, l1⟩
    go_wp2_with fail
    go_ret
    exact ⟨rfl, (later1 _ _).trans l1⟩
end Go.Proofs.Ytindomjaaklgjaa
