/- A Setup that came in, read; the law of SetupOk. -/
import Derived.Test.YtlfkjjnhlkaipaaU7
import Derived.Test.YtlfkjjnhlkaipaaO1
namespace Go.Proofs.Ytlfkjjnhlkaipaa
open Go.ChangeShapes Go.WideShapes Go.ChangeAt Go.RowKit Go.Lib

section
variable {H : Type} {enc : TypeId × Value → H} {W : World}
set_option maxRecDepth 20000 in
theorem openSe {fuel : Nat} {cs : List Value} {y : DataW H × List MemPlace} (h : DataW.trod enc Try.prog W 0 (fun _ => true) true fuel 40 cs = some y) : ∃ (x : Se) (v0 v1 : Value), cs = [.int .i64 x.half, .int .i64 x.stack, v0, .int .i64 x.fuel, v1] ∧ RdL W 1 v0 (In.dats x.input) ∧ RdL W 1 v1 (In.dats x.oracle) := by
  obtain ⟨xs, n, rfl, _, hlen, hxl, hf⟩ := DataW.trod_struct Try.underlying40 h
  have kk : Try.prog.cellsOf 40 = 5 := by kernel_rfl
  rw [kk] at hlen
  match cs, hlen with
  | [c0, c1, c2, c3, c4], _ =>
    have e0 : DataW.trod enc Try.prog W 0 (fun _ => true) true n 3 [c0] = xs[0]? := by
      have k : Try.prog.cellsOf 3 = 1 := by kernel_rfl
      have this : DataW.trod enc Try.prog W 0 (fun _ => true) true n 3 (([c0, c1, c2, c3, c4].drop 0).take (Try.prog.cellsOf 3)) = xs[0]? := hf 0 _ rfl
      rw [k] at this
      exact this
    rw [List.getElem?_eq_getElem (by rw [hxl]; decide)] at e0
    have e1 : DataW.trod enc Try.prog W 0 (fun _ => true) true n 3 [c1] = xs[1]? := by
      have k : Try.prog.cellsOf 3 = 1 := by kernel_rfl
      have this : DataW.trod enc Try.prog W 0 (fun _ => true) true n 3 (([c0, c1, c2, c3, c4].drop 1).take (Try.prog.cellsOf 3)) = xs[1]? := hf 1 _ rfl
      rw [k] at this
      exact this
    rw [List.getElem?_eq_getElem (by rw [hxl]; decide)] at e1
    have e2 : DataW.trod enc Try.prog W 0 (fun _ => true) true n 23 [c2] = xs[2]? := by
      have k : Try.prog.cellsOf 23 = 1 := by kernel_rfl
      have this : DataW.trod enc Try.prog W 0 (fun _ => true) true n 23 (([c0, c1, c2, c3, c4].drop 2).take (Try.prog.cellsOf 23)) = xs[2]? := hf 2 _ rfl
      rw [k] at this
      exact this
    rw [List.getElem?_eq_getElem (by rw [hxl]; decide)] at e2
    have e3 : DataW.trod enc Try.prog W 0 (fun _ => true) true n 3 [c3] = xs[3]? := by
      have k : Try.prog.cellsOf 3 = 1 := by kernel_rfl
      have this : DataW.trod enc Try.prog W 0 (fun _ => true) true n 3 (([c0, c1, c2, c3, c4].drop 3).take (Try.prog.cellsOf 3)) = xs[3]? := hf 3 _ rfl
      rw [k] at this
      exact this
    rw [List.getElem?_eq_getElem (by rw [hxl]; decide)] at e3
    have e4 : DataW.trod enc Try.prog W 0 (fun _ => true) true n 23 [c4] = xs[4]? := by
      have k : Try.prog.cellsOf 23 = 1 := by kernel_rfl
      have this : DataW.trod enc Try.prog W 0 (fun _ => true) true n 23 (([c0, c1, c2, c3, c4].drop 4).take (Try.prog.cellsOf 23)) = xs[4]? := hf 4 _ rfl
      rw [k] at this
      exact this
    rw [List.getElem?_eq_getElem (by rw [hxl]; decide)] at e4
    obtain ⟨z0, rfl, g0⟩ := trod_int Try.underlying3 e0
    obtain ⟨z1, rfl, g1⟩ := trod_int Try.underlying3 e1
    obtain ⟨l2, v2, hq2, g2, b2⟩ := open_list Try.underlying23 (show Try.prog.cellsOf 3 = 1 by kernel_rfl) (by decide) Dat.int (fun _ => True) e2 (fun n cs y _ hl h => openIn hl h)
    obtain rfl : c2 = v2 := by simpa using hq2
    rw [← In.dats_map] at b2
    obtain ⟨z3, rfl, g3⟩ := trod_int Try.underlying3 e3
    obtain ⟨l4, v4, hq4, g4, b4⟩ := open_list Try.underlying23 (show Try.prog.cellsOf 3 = 1 by kernel_rfl) (by decide) Dat.int (fun _ => True) e4 (fun n cs y _ hl h => openIn hl h)
    obtain rfl : c4 = v4 := by simpa using hq4
    rw [← In.dats_map] at b4
    exact ⟨.mk z0 z1 l2 z3 l4, _, _, rfl, b2, b4⟩
end

set_option maxHeartbeats 4000000 in
theorem lawset_any (x : Se) (v0 v1 : Value) (w : World) (h0 : RdL w 1 v0 (In.dats x.input)) (h1 : RdL w 1 v1 (In.dats x.oracle)) :
    Calls Try.prog 5 #[.agg #[.int .i64 x.half, .int .i64 x.stack, v0, .int .i64 x.fuel, v1]] w fun e w' => e = .returned (.bool true) ∧ Later w w' := by
  have hsz := fun w' (l : Later w w') => szSe_any x v0 v1 1048576 w' (RdL.later l h0) (RdL.later l h1) (by decide) (by decide)
  have hto := fun (hs : x.sz ≤ 1048576) w' (l : Later w w') => toSe_any x v0 v1 w' (RdL.later l h0) (RdL.later l h1) hs
  have hS0 := fun w' u0 u1 (k0 : RdL w' 1 u0 (In.dats x.input)) (k1 : RdL w' 1 u1 (In.dats x.oracle)) => ssetup_b x u0 u1 w' k0 k1 rfl
  have hI0 := fun w' u0 u1 (k0 : RdL w' 1 u0 (In.dats x.input)) (k1 : RdL w' 1 u1 (In.dats x.oracle)) => isetup_b x u0 u1 w' k0 k1 rfl
  have hEq := fun w' u0 u1 v0 v1 (j0 : RdL w' 1 u0 (In.dats x.input)) (j1 : RdL w' 1 u1 (In.dats x.oracle)) (k0 : RdL w' 1 v0 (In.dats x.input)) (k1 : RdL w' 1 v1 (In.dats x.oracle)) => eqSe_true x u0 u1 v0 v1 w' j0 j1 k0 k1
  have hVw := fun w' cs (h : RdD w' x.dat cs) => Se.view h
  obtain ⟨a0, p0, rfl, _⟩ := In.slice h0
  obtain ⟨a1, p1, rfl, _⟩ := In.slice h1
  clear h0 h1
  generalize x.half = zh at *
  generalize x.stack = zs at *
  generalize x.fuel = zf at *
  generalize seB x = bb at *
  have hbb : (bb != bb) = false := by simp
  by_cases hs : x.sz ≤ 1048576
  · have hs' : ((x.sz : Nat) : Int) ≤ 1048576 := by omega
    rw [szR_pos hs'] at hsz
    have hto' := hto hs
    have hS := hS0
    have hI := hI0
    have n0 : ¬ (1048576 : Int) - ((x.sz : Nat) : Int) < 0 := by omega
    clear hto hS0 hI0
    go_enter Try.func5, Try.ntmps5
    go_wp2_with fail
    refine (hsz _ (later1 _ _)).mono ?_
    rintro e w1 ⟨rfl, l1⟩
    have L1 : Later w w1 := (later1 _ _).trans l1
    have y0 : w1.cell? ⟨w.heap.size, 2, none⟩ = some (.slice a0 x.input.length p0) := by rw [Below.cell l1 (p := ⟨w.heap.size, 2, none⟩) (by simp)]; simp
    have y1 : w1.cell? ⟨w.heap.size, 4, none⟩ = some (.slice a1 x.oracle.length p1) := by rw [Below.cell l1 (p := ⟨w.heap.size, 4, none⟩) (by simp)]; simp
    have y2 : w1.cell? ⟨w.heap.size, 0, none⟩ = some (.int .i64 zh) := by rw [Below.cell l1 (p := ⟨w.heap.size, 0, none⟩) (by simp)]; simp
    have y3 : w1.cell? ⟨w.heap.size, 1, none⟩ = some (.int .i64 zs) := by rw [Below.cell l1 (p := ⟨w.heap.size, 1, none⟩) (by simp)]; simp
    have y5 : w1.cell? ⟨w.heap.size, 3, none⟩ = some (.int .i64 zf) := by rw [Below.cell l1 (p := ⟨w.heap.size, 3, none⟩) (by simp)]; simp
    have z1 : w.heap.size < w1.heap.size := by have := l1.size; simp at this; omega
    have HY : Hid (∀ w', Later w1 w' → w'.cell? ⟨w.heap.size, 2, none⟩ = some (.slice a0 x.input.length p0) ∧ w'.cell? ⟨w.heap.size, 4, none⟩ = some (.slice a1 x.oracle.length p1) ∧ w'.cell? ⟨w.heap.size, 0, none⟩ = some (.int .i64 zh) ∧ w'.cell? ⟨w.heap.size, 1, none⟩ = some (.int .i64 zs) ∧ w'.cell? ⟨w.heap.size, 3, none⟩ = some (.int .i64 zf) ∧ w.heap.size < w'.heap.size) := fun w' l => ⟨by rw [Below.cell l (p := ⟨w.heap.size, 2, none⟩) z1]; exact y0, by rw [Below.cell l (p := ⟨w.heap.size, 4, none⟩) z1]; exact y1, by rw [Below.cell l (p := ⟨w.heap.size, 0, none⟩) z1]; exact y2, by rw [Below.cell l (p := ⟨w.heap.size, 1, none⟩) z1]; exact y3, by rw [Below.cell l (p := ⟨w.heap.size, 3, none⟩) z1]; exact y5, Nat.lt_of_lt_of_le z1 l.size⟩
    clear l1 hsz
    go_wp2_with fail
    refine (hto' _ L1).mono ?_
    rintro e w2 ⟨b0, q0, b1, q1, F2, rfl, O2, l2⟩
    obtain ⟨_, _, e2, r20, r21⟩ := hVw _ _ O2.rd
    cases e2
    have M2 := l2
    clear y0 y1 y2 y3 y5 z1 O2 l2
    obtain ⟨y0, y1, y2, y3, y5, z2⟩ := HY.out w2 M2
    go_wp2_with fail
    refine (hS w2 _ _ r20 r21).mono ?_
    rintro e w3 ⟨rfl, l3⟩
    have M3 := M2.trans l3
    clear l3 r20 r21 y0 y1 y2 y3 y5 z2 hS M2
    obtain ⟨y0, y1, y2, y3, y5, z3⟩ := HY.out w3 M3
    go_wp2_with fail
    refine (hto' _ (L1.trans M3)).mono ?_
    rintro e w4 ⟨b4, q4, b5, q5, F4, rfl, O4, l4⟩
    obtain ⟨_, _, e4, r40, r41⟩ := hVw _ _ O4.rd
    cases e4
    have M4 := M3.trans l4
    clear l4 O4 y0 y1 y2 y3 y5 z3 M3
    obtain ⟨y0, y1, y2, y3, y5, z4⟩ := HY.out w4 M4
    go_wp2_with fail
    refine (hI _ _ _ (RdL.later (later1 _ _) r40) (RdL.later (later1 _ _) r41)).mono ?_
    rintro e w5 ⟨rfl, l5⟩
    have N5 := (later1 w4 _).trans l5
    have M5 := M4.trans N5
    have x0 : w5.cell? ⟨w4.heap.size, 2, none⟩ = some (.slice b4 x.input.length q4) := by rw [Below.cell l5 (p := ⟨w4.heap.size, 2, none⟩) (by simp)]; simp
    have x1 : w5.cell? ⟨w4.heap.size, 4, none⟩ = some (.slice b5 x.oracle.length q5) := by rw [Below.cell l5 (p := ⟨w4.heap.size, 4, none⟩) (by simp)]; simp
    have x2 : w5.cell? ⟨w4.heap.size, 0, none⟩ = some (.int .i64 zh) := by rw [Below.cell l5 (p := ⟨w4.heap.size, 0, none⟩) (by simp)]; simp
    have x3 : w5.cell? ⟨w4.heap.size, 1, none⟩ = some (.int .i64 zs) := by rw [Below.cell l5 (p := ⟨w4.heap.size, 1, none⟩) (by simp)]; simp
    have x5 : w5.cell? ⟨w4.heap.size, 3, none⟩ = some (.int .i64 zf) := by rw [Below.cell l5 (p := ⟨w4.heap.size, 3, none⟩) (by simp)]; simp
    have zz5 : w4.heap.size < w5.heap.size := by have := l5.size; simp at this; omega
    clear y0 y1 y2 y3 y5 z4 hI
    obtain ⟨y0, y1, y2, y3, y5, z5⟩ := HY.out w5 M5
    have HS : Hid (∀ w', Later w5 w' → (Later w5 w' ∧ w'.cell? ⟨w.heap.size, 2, none⟩ = some (.slice a0 x.input.length p0) ∧ w'.cell? ⟨w.heap.size, 4, none⟩ = some (.slice a1 x.oracle.length p1) ∧ w'.cell? ⟨w.heap.size, 0, none⟩ = some (.int .i64 zh) ∧ w'.cell? ⟨w.heap.size, 1, none⟩ = some (.int .i64 zs) ∧ w'.cell? ⟨w.heap.size, 3, none⟩ = some (.int .i64 zf) ∧ w'.cell? ⟨w4.heap.size, 2, none⟩ = some (.slice b4 x.input.length q4) ∧ w'.cell? ⟨w4.heap.size, 4, none⟩ = some (.slice b5 x.oracle.length q5) ∧ w'.cell? ⟨w4.heap.size, 0, none⟩ = some (.int .i64 zh) ∧ w'.cell? ⟨w4.heap.size, 1, none⟩ = some (.int .i64 zs) ∧ w'.cell? ⟨w4.heap.size, 3, none⟩ = some (.int .i64 zf))) := fun w' ll => ⟨ll, by rw [Below.cell ll (p := ⟨w.heap.size, 2, none⟩) z5]; exact y0, by rw [Below.cell ll (p := ⟨w.heap.size, 4, none⟩) z5]; exact y1, by rw [Below.cell ll (p := ⟨w.heap.size, 0, none⟩) z5]; exact y2, by rw [Below.cell ll (p := ⟨w.heap.size, 1, none⟩) z5]; exact y3, by rw [Below.cell ll (p := ⟨w.heap.size, 3, none⟩) z5]; exact y5, by rw [Below.cell ll (p := ⟨w4.heap.size, 2, none⟩) zz5]; exact x0, by rw [Below.cell ll (p := ⟨w4.heap.size, 4, none⟩) zz5]; exact x1, by rw [Below.cell ll (p := ⟨w4.heap.size, 0, none⟩) zz5]; exact x2, by rw [Below.cell ll (p := ⟨w4.heap.size, 1, none⟩) zz5]; exact x3, by rw [Below.cell ll (p := ⟨w4.heap.size, 3, none⟩) zz5]; exact x5⟩
    have L5 := L1.trans M5
    have hE := fun w' u0 u1 (l : Later w5 w') (k0 : RdL w' 1 u0 (In.dats x.input)) (k1 : RdL w' 1 u1 (In.dats x.oracle)) => hEq w' _ _ u0 u1 (RdL.later (N5.trans l) r40) (RdL.later (N5.trans l) r41) k0 k1
    clear r40 r41 l5 N5 hEq HY M4 M5
    go_wp2_with fail
    go_region_held3 (fun w' => Later w5 w' ∧ w'.cell? ⟨w.heap.size, 2, none⟩ = some (.slice a0 x.input.length p0) ∧ w'.cell? ⟨w.heap.size, 4, none⟩ = some (.slice a1 x.oracle.length p1) ∧ w'.cell? ⟨w.heap.size, 0, none⟩ = some (.int .i64 zh) ∧ w'.cell? ⟨w.heap.size, 1, none⟩ = some (.int .i64 zs) ∧ w'.cell? ⟨w.heap.size, 3, none⟩ = some (.int .i64 zf) ∧ w'.cell? ⟨w4.heap.size, 2, none⟩ = some (.slice b4 x.input.length q4) ∧ w'.cell? ⟨w4.heap.size, 4, none⟩ = some (.slice b5 x.oracle.length q5) ∧ w'.cell? ⟨w4.heap.size, 0, none⟩ = some (.int .i64 zh) ∧ w'.cell? ⟨w4.heap.size, 1, none⟩ = some (.int .i64 zs) ∧ w'.cell? ⟨w4.heap.size, 3, none⟩ = some (.int .i64 zf)) (first | exact HS.out _ (Later.drew _) | exact HS.out _ ((Later.drew _).trans l6) | exact HS.out _ (((Later.drew _).trans l6).trans l7)) (first | (go_at_call 18; refine (hto' _ (L5.trans (Later.drew _))).mono ?_; rintro e w6 ⟨b6, q6, b7, q7, F6, rfl, O6, l6⟩; obtain ⟨_, _, e6, r60, r61⟩ := hVw _ _ O6.rd; cases e6) | (go_at_call 19; refine (hE _ _ _ ((Later.drew _).trans l6) r60 r61).mono ?_; rintro e w7 ⟨rfl, l7⟩))
    all_goals
      go_wp2_with fail
      go_ret
      exact ⟨rfl, L5.trans (((Later.drew _).trans l6).trans l7)⟩
  · have hs' : ¬ ((x.sz : Nat) : Int) ≤ 1048576 := by omega
    rw [szR_neg hs'] at hsz
    clear hto hS0 hI0 hEq
    go_enter Try.func5, Try.ntmps5
    go_wp2_with fail
    refine (hsz _ (later1 _ _)).mono ?_
    rintro e w1 ⟨rfl, l1⟩
    go_wp2_with fail
    go_ret
    exact ⟨rfl, (later1 _ _).trans l1⟩
end Go.Proofs.Ytlfkjjnhlkaipaa
