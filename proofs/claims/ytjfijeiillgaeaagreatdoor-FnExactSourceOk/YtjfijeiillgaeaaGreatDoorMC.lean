/- Several of my texts in one: T66c, T66, T66b. -/
import Derived.Test.YtjfijeiillgaeaaGreatDoorT66a
import Derived.Test.YtjfijeiillgaeaaGreatDoorMB
import Derived.Test.YtjfijeiillgaeaaGreatDoorMF
/- Closed facts of the row of SourceOk, together. -/
namespace Go.Proofs.YtjfijeiillgaeaaGreatDoor
open Go.ChangeShapes Go.WideShapes Go.ChangeAt Go.RowKit
set_option maxRecDepth 100000 in
theorem xok_facts : joinedFacts Tryz.prog 3 Tryz.f3 Rows.fnExactSourceOkSpec Rows.fnExactSourceOkRow = true := by
  unfold joinedFacts
  exact (and_mk (and_mk (and_mk (and_mk (and_mk (and_mk (and_mk (and_mk (and_mk (and_mk (and_mk (and_mk (and_mk (and_mk (and_mk (and_mk (and_mk (and_mk (and_mk (and_mk (and_mk (and_mk (and_mk (and_mk (and_mk (and_mk (and_mk (and_mk (and_mk (and_mk (and_mk xok_k0 xok_k1) xok_k2) xok_k3) xok_k4) xok_k5) xok_k6) xok_k7) xok_k8) xok_k9) xok_k10) xok_k11) xok_k12) xok_k13) xok_k14) xok_k15) xok_k16) xok_k17) xok_k18) xok_k19) xok_k20) xok_k21) xok_k22) xok_k23) xok_k24) xok_k25) xok_k26) xok_k27) xok_k28) xok_k29) xok_k30) xok_k31)
end Go.Proofs.YtjfijeiillgaeaaGreatDoor
/- At every source impl.SourceOk answers as the model spec.SourceOk, and writes into no argument: the law FnExactSourceOk returns true, without a condition; the four variables on its road (impl.opSigns and three tables of the library) are tied to the text of the program (over the pruned copy of the project that the seat holds). -/
namespace Go.Proofs.YtjfijeiillgaeaaGreatDoor
open Go.ChangeShapes Go.WideShapes Go.ChangeAt Go.RowKit

set_option maxRecDepth 100000 in
theorem xok_lifted (os : Os) (started : os.Started) (H : Type) (enc : TypeId × Value → H) :
    ReturnsInHanded {} Tryz.checked os 3 .any (fun w args => (Rows.fnExactSourceOkSpec.pre enc Tryz.prog Tryz.f3 [] false w args ∧ laidMetH Tryz.prog laid4 w) ∧ sizedMet enc Tryz.prog Tryz.f3 (OpenSpec.ofChange Rows.fnExactSourceOkSpec) false w args)
      (Rows.fnExactSourceOkSpec.post enc Tryz.prog Tryz.f3 false true false false) := by
  refine returnsInHanded_of_change_and (C := Tryz.checked) (X := fun w _ => laidMetH Tryz.prog laid4 w) (fun _ _ _ hh h => h.of_heap hh) own started (by kernel_rfl) Tryz.func3
    (ChangeSpec.witness_shaped (enc := enc) (C := Tryz.checked) (os := os) (X := fun w _ => laidMetH Tryz.prog laid4 w) false (World.doorLaid Tryz.prog 400 os) #[.agg #[.slice none 0 0, .slice none 0 0]] 8 rfl (World.shaped_of_RefB (by kernel_rfl) (by kernel_rfl)) (by kernel_rfl) (by kernel_rfl) (by kernel_rfl) (door_met os _)) ?_
  intro W base args ds gs before hval0 hW _ _ hL _
  have hval : ∀ (j : Nat) t v, Tryz.f3.params[j]? = some t → args[j]? = some v → Value.okWide Tryz.prog W .any base t v := hval0
  have hW' := hW
  obtain ⟨p, q, hA0, hV0, rfl, hfz, hnd⟩ := hW
  have hA : DataW.TrodAll enc Tryz.prog W 0 (fun _ => true) true Tryz.f3.params.toList args.toList ds p := hA0
  have hV : DataW.TrodVars enc Tryz.prog W (fun _ => true) ["loop.example/g00306/impl.opSigns"] gs q := hV0
  rw [Tryz.params3] at hA hval
  obtain ⟨v0, vs0, d0, ds0, p0, q0, hargs, rfl, rfl, h0, r0⟩ := trodAll_cons hA
  obtain ⟨rfl, rfl, rfl⟩ := trodAll_nil r0
  obtain rfl : args = #[v0] := by cases args; simp_all
  have hE := env_laid hL
  obtain ⟨cs, rfl, hsz⟩ := okWide_struct Tryz.underlying25 (hval 0 25 v0 rfl rfl)
  have k0 := h0
  have lt0 : ∀ x ∈ p0, x.block < W.heap.size := by obtain ⟨m, hm⟩ := k0; exact DataW.trod_lt m _ _ _ hm
  obtain ⟨fuel, hf⟩ := h0
  obtain ⟨x, u0, u1, hcs, hg, w0, w1⟩ := openSo hf
  obtain rfl : cs = #[u0, u1] := by cases cs; simpa [Value.cells] using hcs
  obtain ⟨g1, rfl⟩ : ∃ g, gs = [g] := by
    cases gs with
    | nil => exact hV.elim
    | cons a r =>
      obtain ⟨_, _, _, _, _, _, _, _, _, _, hr, _⟩ := hV
      cases r with
      | nil => exact ⟨a, rfl⟩
      | cons b r => exact hr.elim
  clear hA0 hV0 hval0
  refine (lawok_any x u0 u1 W hE hg w0 w1).mono fun e W' ⟨he, bel⟩ => ?_
  subst he
  exact ⟨_, rfl, _, _, _, [], _, _, hW', trodAll_mk1 (shut_bool Tryz.underlying4 _), (trodAll_cons_mk (Below.trod laidOut (by kernel_rfl) (of_decide_eq_true (by kernel_rfl)) k0 bel lt0) trodAll_mk0), Below.trodVars laidOut bel (by kernel_rfl) hV, Below.frame bel _, fun h => by cases h⟩

end Go.Proofs.YtjfijeiillgaeaaGreatDoor
/- The row and the card of SourceOk. -/
namespace Go.Proofs.YtjfijeiillgaeaaGreatDoor
open Go.ChangeShapes Go.WideShapes Go.ChangeAt Go.RowKit

theorem xok_row : Rows.FnExactSourceOkSaid :=
  OpenClaim.holds_of_wide 3 Tryz.f3 rfl rfl rfl rfl rfl rfl rfl ⟨rfl, rfl, rfl, rfl, rfl⟩ rfl rfl rfl rfl rfl (by kernel_rfl) Tryz.func3 xok_facts
    (of_decide_eq_true (by kernel_rfl)) (by unfold Func.isWrapper; first | (rw [if_pos (by decide +kernel)]; kernel_rfl) | (rw [if_neg (by decide +kernel)]; exact ⟨rfl, rfl⟩))
    (fun os started H enc _ => xok_lifted os started H enc)

theorem xok_holds : Rows.FnExactSourceOkCardSaid :=
  Claim7.holds_tied_plain_at .later [] [.data, .data, .data, .data] true Rows.fnExactSourceOkCard.stood.harness true
    xok_row (fun _ h => by cases h) (by kernel_rfl) (fun _ h => by cases h) fnExactSourceOk_row_tie rfl ⟨rfl, rfl⟩ (by kernel_rfl) rfl
    (fun f fn hf hfn => by
      obtain rfl : f = 3 := Option.some.inj ((show Tryz.prog.funcNamed "loop.example/g00306/laws.FnExactSourceOk" = some 3 by kernel_rfl).symm.trans hf) |>.symm
      obtain rfl : fn = Tryz.f3 := (Option.some.inj (Tryz.func3.symm.trans hfn)).symm
      exact ⟨by kernel_rfl, fun j t ht => by
        rw [Tryz.params3] at ht
        have hm : t ∈ #[25] := Array.mem_of_getElem? ht
        have hall : #[25].all (fun t => !Tryz.prog.wantsStandIn t) = true := by kernel_rfl
        have h1 := Array.all_eq_true_iff_forall_mem.1 hall t hm
        have h2 : Tryz.prog.wantsStandIn t = false := by simpa using h1
        exact h2⟩)
    (by kernel_rfl)

end Go.Proofs.YtjfijeiillgaeaaGreatDoor
