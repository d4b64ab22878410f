/- At every source impl.Nodes answers as the model spec.Nodes, and writes into no argument: the law FnExactNodes returns true, without a condition. -/
import Derived.Test.YtpgfajpjcibmgaaT24
import Derived.Test.YtpgfajpjcibmgaaT26
namespace Go.Proofs.Ytpgfajpjcibmgaa
open Go.ChangeShapes Go.WideShapes Go.ChangeAt Go.RowKit

set_option maxHeartbeats 4000000 in
theorem lawnodes_any (x : So) (v0 v1 : Value) (w : World) (hg : Fu.goods x.funcs) (h0 : RdL w 2 v0 (Sc.dats x.structs)) (h1 : RdL w 5 v1 (Fu.dats x.funcs)) :
    Calls Try.prog 3 #[.agg #[v0, v1]] w fun e w' => e = .returned (.bool true) ∧ Later w w' := by
  have hsz := fun w' (l : Later w w') => szSo_any x v0 v1 1048576 w' (RdL.later l h0) (RdL.later l h1) (by decide) (by decide)
  have hto := fun (hs : x.sz ≤ 1048576) w' (l : Later w w') => toSo_any x v0 v1 w' (RdL.later l h0) (RdL.later l h1) hs
  obtain ⟨a0, p0, rfl, _⟩ := Sc.slice h0
  obtain ⟨a1, p1, rfl, _⟩ := Fu.slice h1
  have hB0 : ∀ o, Later w (w.alloc o) := fun o => later1 w o
  clear h0 h1
  by_cases hs : x.sz ≤ 1048576
  · have hs' : ((x.sz : Nat) : Int) ≤ 1048576 := by omega
    rw [szR_pos hs'] at hsz
    have hto' := hto hs
    have n0 : ¬ (1048576 : Int) - ((x.sz : Nat) : Int) < 0 := by omega
    clear hto
    go_enter Try.func3, Try.ntmps3
    go_wp2_with fail
    refine (hsz _ (later1 _ _)).mono ?_
    rintro e w1 ⟨rfl, l1⟩
    have L1 : Later w w1 := (later1 _ _).trans l1
    have y0 : w1.cell? ⟨w.heap.size, 0, none⟩ = some (.slice a0 x.structs.length p0) := by rw [Below.cell l1 (p := ⟨w.heap.size, 0, none⟩) (by simp)]; simp
    have y1 : w1.cell? ⟨w.heap.size, 1, none⟩ = some (.slice a1 x.funcs.length p1) := by rw [Below.cell l1 (p := ⟨w.heap.size, 1, none⟩) (by simp)]; simp
    have z1 : w.heap.size < w1.heap.size := by have := l1.size; simp at this; omega
    clear l1
    go_wp2_with fail
    refine (hto' _ L1).mono ?_
    rintro e w2 ⟨b0, q0, b1, q1, F2, rfl, O2, l2⟩
    obtain ⟨_, _, e2, r20, r21⟩ := So.view O2.rd
    cases e2
    have y0 : w2.cell? ⟨w.heap.size, 0, none⟩ = some (.slice a0 x.structs.length p0) := by rw [Below.cell l2 (p := ⟨w.heap.size, 0, none⟩) z1]; exact y0
    have y1 : w2.cell? ⟨w.heap.size, 1, none⟩ = some (.slice a1 x.funcs.length p1) := by rw [Below.cell l2 (p := ⟨w.heap.size, 1, none⟩) z1]; exact y1
    have z2 : w.heap.size < w2.heap.size := by have := l2.size; omega
    have L2 := L1.trans l2
    clear l2
    go_wp2_with fail
    refine (snodes_any x _ _ w2 hg r20 r21).mono ?_
    rintro e w3 ⟨rfl, l3⟩
    have y0 : w3.cell? ⟨w.heap.size, 0, none⟩ = some (.slice a0 x.structs.length p0) := by rw [Below.cell l3 (p := ⟨w.heap.size, 0, none⟩) z2]; exact y0
    have y1 : w3.cell? ⟨w.heap.size, 1, none⟩ = some (.slice a1 x.funcs.length p1) := by rw [Below.cell l3 (p := ⟨w.heap.size, 1, none⟩) z2]; exact y1
    have z3 : w.heap.size < w3.heap.size := by have := l3.size; omega
    have L3 := L2.trans l3
    clear l3 r20 r21 O2
    go_wp2_with fail
    refine (hto' _ L3).mono ?_
    rintro e w4 ⟨b4, q4, b5, q5, F4, rfl, O4, l4⟩
    obtain ⟨_, _, e4, r40, r41⟩ := So.view O4.rd
    cases e4
    have y0 : w4.cell? ⟨w.heap.size, 0, none⟩ = some (.slice a0 x.structs.length p0) := by rw [Below.cell l4 (p := ⟨w.heap.size, 0, none⟩) z3]; exact y0
    have y1 : w4.cell? ⟨w.heap.size, 1, none⟩ = some (.slice a1 x.funcs.length p1) := by rw [Below.cell l4 (p := ⟨w.heap.size, 1, none⟩) z3]; exact y1
    have z4 : w.heap.size < w4.heap.size := by have := l4.size; omega
    have L4 := L3.trans l4
    have hI := fun w' (l : Later w4 w') => inodes_any x _ _ w' hg (RdL.later l r40) (RdL.later l r41)
    clear l4 O4
    go_wp2_with fail
    refine (hI _ (later1 _ _)).mono ?_
    rintro e w5 ⟨rfl, l5⟩
    have L5 := (L4.alloc _).trans l5
    have M5 := (later1 w4 _).trans l5
    have y0 : w5.cell? ⟨w.heap.size, 0, none⟩ = some (.slice a0 x.structs.length p0) := by rw [Below.cell M5 (p := ⟨w.heap.size, 0, none⟩) z4]; exact y0
    have y1 : w5.cell? ⟨w.heap.size, 1, none⟩ = some (.slice a1 x.funcs.length p1) := by rw [Below.cell M5 (p := ⟨w.heap.size, 1, none⟩) z4]; exact y1
    have x0 : w5.cell? ⟨w4.heap.size, 0, none⟩ = some (.slice b4 x.structs.length q4) := by rw [Below.cell l5 (p := ⟨w4.heap.size, 0, none⟩) (by simp)]; simp
    have x1 : w5.cell? ⟨w4.heap.size, 1, none⟩ = some (.slice b5 x.funcs.length q5) := by rw [Below.cell l5 (p := ⟨w4.heap.size, 1, none⟩) (by simp)]; simp
    have z5 : w.heap.size < w5.heap.size := by have := l5.size; simp at this; omega
    have zz5 : w4.heap.size < w5.heap.size := by have := l5.size; simp at this; omega
    have hE := fun w' v0 v1 (l : Later w5 w') (k0 : RdL w' 2 v0 (Sc.dats x.structs)) (k1 : RdL w' 5 v1 (Fu.dats x.funcs)) => eqSo_true x _ _ v0 v1 w' (RdL.later (M5.trans l) r40) (RdL.later (M5.trans l) r41) k0 k1
    have HS : Hid (∀ w', Later w5 w' → (Later w5 w' ∧ w'.cell? ⟨w.heap.size, 0, none⟩ = some (.slice a0 x.structs.length p0) ∧ w'.cell? ⟨w.heap.size, 1, none⟩ = some (.slice a1 x.funcs.length p1) ∧ w'.cell? ⟨w4.heap.size, 0, none⟩ = some (.slice b4 x.structs.length q4) ∧ w'.cell? ⟨w4.heap.size, 1, none⟩ = some (.slice b5 x.funcs.length q5))) := fun w' ll => ⟨ll, by rw [Below.cell ll (p := ⟨w.heap.size, 0, none⟩) z5]; exact y0, by rw [Below.cell ll (p := ⟨w.heap.size, 1, none⟩) z5]; exact y1, by rw [Below.cell ll (p := ⟨w4.heap.size, 0, none⟩) zz5]; exact x0, by rw [Below.cell ll (p := ⟨w4.heap.size, 1, none⟩) zz5]; exact x1⟩
    clear r40 r41 hI hsz l5 M5
    go_wp2_with fail
    go_region_held3 (fun w' => Later w5 w' ∧ w'.cell? ⟨w.heap.size, 0, none⟩ = some (.slice a0 x.structs.length p0) ∧ w'.cell? ⟨w.heap.size, 1, none⟩ = some (.slice a1 x.funcs.length p1) ∧ w'.cell? ⟨w4.heap.size, 0, none⟩ = some (.slice b4 x.structs.length q4) ∧ w'.cell? ⟨w4.heap.size, 1, none⟩ = some (.slice b5 x.funcs.length q5)) (first | exact HS.out _ (Later.drew _) | exact HS.out _ ((Later.drew _).trans l6) | exact HS.out _ (((Later.drew _).trans l6).trans l7)) (first | (go_at_call 6; refine (hto' _ (L5.trans (Later.drew _))).mono ?_; rintro e w6 ⟨b6, q6, b7, q7, F6, rfl, O6, l6⟩; obtain ⟨_, _, e6, r60, r61⟩ := So.view O6.rd; cases e6) | (go_at_call 8; refine (hE _ _ _ ((Later.drew _).trans l6) r60 r61).mono ?_; rintro e w7 ⟨rfl, l7⟩))
    all_goals
      go_wp2_with fail
      go_ret
      exact ⟨rfl, L5.trans (((Later.drew _).trans l6).trans l7)⟩
  · have hs' : ¬ ((x.sz : Nat) : Int) ≤ 1048576 := by omega
    rw [szR_neg hs'] at hsz
    clear hto
    go_enter Try.func3, Try.ntmps3
    go_wp2_with fail
    refine (hsz _ (later1 _ _)).mono ?_
    rintro e w1 ⟨rfl, l1⟩
    go_wp2_with fail
    go_ret
    exact ⟨rfl, (later1 _ _).trans l1⟩

theorem own : ownKnob Try.prog.godebug = none := by kernel_rfl
theorem laidOut : laidOutB Try.prog = true := by kernel_rfl

set_option maxRecDepth 100000 in
theorem xnodes_lifted (os : Os) (started : os.Started) (H : Type) (enc : TypeId × Value → H) :
    ReturnsInHanded {} Try.checked os 3 .any (Rows.fnExactNodesSpec.pre6 enc Try.prog Try.f3 Rows.fnExactNodesRow.domain false) (Rows.fnExactNodesSpec.post enc Try.prog Try.f3 false true false false) := by
  refine returnsInHanded_of_change (C := Try.checked) own started (by kernel_rfl) Try.func3
    (ChangeSpec.witness6 (enc := enc) (C := Try.checked) false ⟨#[], #[.agg #[.slice none 0 0, .slice none 0 0]], []⟩ 8 (by kernel_rfl) (by kernel_rfl) (by kernel_rfl) (by kernel_rfl)) ?_
  intro W base args ds gs before hval0 hW _ _
  have hval : ∀ (j : Nat) t v, Try.f3.params[j]? = some t → args[j]? = some v → Value.okWide Try.prog W .any base t v := hval0
  have hW' := hW
  obtain ⟨p, q, hA0, hV, rfl, hfz, hnd⟩ := hW
  have hA : DataW.TrodAll enc Try.prog W 0 (fun _ => true) true Try.f3.params.toList args.toList ds p := hA0
  rw [Try.params3] at hA hval
  obtain ⟨v0, vs0, d0, ds0, p0, q0, hargs, rfl, rfl, h0, r0⟩ := trodAll_cons hA
  obtain ⟨rfl, rfl, rfl⟩ := trodAll_nil r0
  obtain rfl : args = #[v0] := by cases args; simp_all
  obtain ⟨rfl, rfl⟩ := trodVars_none hV
  obtain ⟨cs, rfl, hsz⟩ := okWide_struct Try.underlying25 (hval 0 25 v0 rfl rfl)
  have k0 := h0
  have lt0 : ∀ x ∈ p0, x.block < W.heap.size := by obtain ⟨m, hm⟩ := k0; exact DataW.trod_lt m _ _ _ hm
  obtain ⟨fuel, hf⟩ := h0
  obtain ⟨x, u0, u1, hcs, hg, w0, w1⟩ := openSo hf
  obtain rfl : cs = #[u0, u1] := by cases cs; simpa [Value.cells] using hcs
  clear hA0 hval0
  refine (lawnodes_any x u0 u1 W hg w0 w1).mono fun e W' ⟨he, bel⟩ => ?_
  subst he
  exact ⟨_, rfl, _, _, _, [], _, [], hW', trodAll_mk1 (shut_bool Try.underlying4 _), (trodAll_cons_mk (Below.trod laidOut (by kernel_rfl) (of_decide_eq_true (by kernel_rfl)) k0 bel lt0) trodAll_mk0), rfl, Below.frame bel _, fun h => by cases h⟩

theorem xnodes_holds : Rows.FnExactNodesSaid :=
  OpenClaim.holds_of_wide 3 Try.f3 rfl rfl rfl rfl rfl rfl rfl ⟨rfl, rfl, rfl, rfl, rfl⟩ rfl rfl rfl rfl rfl (by kernel_rfl) Try.func3 (by kernel_rfl)
    (of_decide_eq_true (by kernel_rfl)) (by unfold Func.isWrapper; first | (rw [if_pos (by decide +kernel)]; kernel_rfl) | (rw [if_neg (by decide +kernel)]; exact ⟨rfl, rfl⟩))
    (fun os started H enc _ => xnodes_lifted os started H enc)

end Go.Proofs.Ytpgfajpjcibmgaa
