/- Several of my texts in one: T74, T76c, T76, T76b. -/
import Derived.Test.YtbigjeejmacjcaaGreatDoorMB
import Derived.Test.YtbigjeejmacjcaaGreatDoorMH
import Derived.Test.YtbigjeejmacjcaaGreatDoorMF
/- Print, by the model and by the program, as one answer; the law of Print, for every source. -/
namespace Go.Proofs.YtbigjeejmacjcaaGreatDoor
open Go.RowKit

/-- What Print puts out. -/
def So.out (x : So) : List Int := if x.ok = true then x.text else []
theorem So.out_len (x : So) : x.out.length ≤ 6000 := by
  unfold So.out
  split
  · rename_i h
    unfold So.ok at h
    rw [Bool.and_eq_true] at h
    exact of_decide_eq_true h.2
  · exact Nat.zero_le _
theorem iprint_ans (x : So) (v0 v1 : Value) (w : World) (hE : Env w) (hg : Fu.goods x.funcs) (h0 : RdL w 2 v0 (Sc.dats x.structs)) (h1 : RdL w 5 v1 (Fu.dats x.funcs)) :
    Calls Tryz.prog 7 #[.agg #[v0, v1]] w (PrAns x.ok x.out w) := by
  refine (iprint_any x v0 v1 w hE hg h0 h1).mono ?_
  rintro e w' ⟨hl, ⟨hr, h6, v, rfl, ho⟩ | ⟨hn, rfl⟩⟩
  · have hok : x.ok = true := by unfold So.ok; rw [hr, decide_eq_true h6]; rfl
    have hout : x.out = x.text := by unfold So.out; rw [if_pos hok]
    have hA : AnsK .u8 w.heap.size w' v x.out := by rw [hout]; exact AnsK.of_row ho (by omega)
    obtain ⟨a, M, c, rfl, hM⟩ := hA.shape
    exact ⟨a, M, c, by rw [hok], hl, hA, hM⟩
  · have hok : x.ok = false := by
      unfold So.ok
      cases h : x.run.isSome
      · rfl
      · rw [Bool.true_and, decide_eq_false (fun q => hn ⟨h, q⟩)]
    have hout : x.out = [] := by unfold So.out; rw [hok]; rfl
    exact ⟨none, 0, 0, by rw [hok], hl, by rw [hout]; exact AnsK.nil _ _ _, by rw [hout]; rfl⟩
set_option maxRecDepth 20000 in
set_option maxHeartbeats 1000000 in
theorem sprint_any (x : So) (v0 v1 : Value) (w : World) (hg : Fu.goods x.funcs) (h0 : RdL w 2 v0 (Sc.dats x.structs)) (h1 : RdL w 5 v1 (Fu.dats x.funcs)) :
    Calls Tryz.prog 5 #[.agg #[v0, v1]] w (PrAns x.ok x.out w) := by
  have hP := fun w' (l : Later w w') => sok_any x v0 v1 w' hg (h0.later l) (h1.later l)
  have hT := fun w' (l : Later w w') (hf : SoFine x) => print_any x hf w' w' v0 v1 (Later.refl _) (h0.later l) (h1.later l)
  obtain ⟨sa, scap, rfl, hsl⟩ := Sc.slice h0
  obtain ⟨fa, fcap, rfl, hfl⟩ := Fu.slice h1
  cases hok : x.ok with
  | false =>
    rw [hok] at hP
    have HA : Hid (∀ w', Later w w' → PrAns false x.out w (.returned (.tuple #[.slice none 0 0, .bool false])) w') := fun w' l => by
      have hout : x.out = [] := by unfold So.out; rw [hok]; rfl
      exact ⟨none, 0, 0, rfl, l, by rw [hout]; exact AnsK.nil _ _ _, by rw [hout]; rfl⟩
    generalize hQ : PrAns false x.out w = Q at *
    clear hQ h0 h1 hsl hfl hT
    go_enter Tryz.func5, Tryz.ntmps5
    go_wp2_with fail
    refine (hP _ (later1 _ _)).mono ?_
    rintro e w2 ⟨rfl, l2⟩
    have HB := HA.out w2 ((later1 _ _).trans l2)
    clear HA hP
    go_wp2_with fail
    exact HB
  | true =>
    have hF : SoFine x := by
      have h := hok
      unfold So.ok at h
      rw [Bool.and_eq_true] at h
      cases e : So.run x with
      | none => rw [e] at h; cases h.1
      | some q => exact (So.run_fine hg e).fine
    have h6 : x.text.length ≤ 6000 := by
      have h := hok
      unfold So.ok at h
      rw [Bool.and_eq_true] at h
      exact of_decide_eq_true h.2
    have HA : Hid (∀ w' w2 v, Later w w2 → Bf w2 w2 w' v x.text → PrAns true x.out w (.returned (.tuple #[v, .bool true])) w') := fun w' w2 v l hB => by
      have hout : x.out = x.text := by unfold So.out; rw [if_pos hok]
      have hA : AnsK .u8 w.heap.size w' v x.out := by rw [hout]; exact (AnsK.of_row hB.own (by omega)).mono l.size
      obtain ⟨a, M, c, rfl, hM⟩ := hA.shape
      exact ⟨a, M, c, rfl, l.trans hB.lat, hA, hM⟩
    rw [hok] at hP
    have hbx := fun (w2 : World) (l2 : Later (w.alloc (.cells #[.slice sa x.structs.length scap, .slice fa x.funcs.length fcap] 33)) w2) => (show w2.cell? ⟨w.heap.size, 0, none⟩ = some (.slice sa x.structs.length scap) ∧ w2.cell? ⟨w.heap.size, 1, none⟩ = some (.slice fa x.funcs.length fcap) from ⟨by rw [Below.cell l2 (p := ⟨w.heap.size, 0, none⟩) (by simp)]; simp, by rw [Below.cell l2 (p := ⟨w.heap.size, 1, none⟩) (by simp)]; simp⟩)
    generalize hQ : PrAns true x.out w = Q at *
    clear hQ h0 h1 hsl hfl
    go_enter Tryz.func5, Tryz.ntmps5
    go_wp2_with fail
    refine (hP _ (later1 _ _)).mono ?_
    rintro e w2 ⟨rfl, l2⟩
    have L2 := (later1 _ _).trans l2
    obtain ⟨y0, y1⟩ := hbx w2 l2
    have hT2 := hT w2 L2 hF
    clear hP hT hbx
    go_wp2_with fail
    refine hT2.mono ?_
    rintro e w3 ⟨v, rfl, hB⟩
    have HB := HA.out w3 w2 v L2 hB
    clear HA
    go_wp2_with fail
    exact HB
theorem lawprint_any (x : So) (v0 v1 : Value) (w : World) (hEn : Env w) (hg : Fu.goods x.funcs) (h0 : RdL w 2 v0 (Sc.dats x.structs)) (h1 : RdL w 5 v1 (Fu.dats x.funcs)) :
    Calls Tryz.prog 3 #[.agg #[v0, v1]] w fun e w' => e = .returned (.bool true) ∧ Later w w' :=
  lawprint_of x x.ok x.out (So.out_len x) v0 v1 w (fun w' l u0 u1 k0 k1 => iprint_ans x u0 u1 w' (hEn.later l) hg k0 k1) (fun w' u0 u1 k0 k1 => sprint_any x u0 u1 w' hg k0 k1) h0 h1
end Go.Proofs.YtbigjeejmacjcaaGreatDoor
/- Closed facts of the row of Print, together. -/
namespace Go.Proofs.YtbigjeejmacjcaaGreatDoor
open Go.ChangeShapes Go.WideShapes Go.ChangeAt Go.RowKit
set_option maxRecDepth 100000 in
theorem xpr_facts : joinedFacts Tryz.prog 3 Tryz.f3 Rows.fnExactPrintSpec Rows.fnExactPrintRow = true := by
  unfold joinedFacts
  exact (and_mk (and_mk (and_mk (and_mk (and_mk (and_mk (and_mk (and_mk (and_mk (and_mk (and_mk (and_mk (and_mk (and_mk (and_mk (and_mk (and_mk (and_mk (and_mk (and_mk (and_mk (and_mk (and_mk (and_mk (and_mk (and_mk (and_mk (and_mk (and_mk (and_mk (and_mk xpr_k0 xpr_k1) xpr_k2) xpr_k3) xpr_k4) xpr_k5) xpr_k6) xpr_k7) xpr_k8) xpr_k9) xpr_k10) xpr_k11) xpr_k12) xpr_k13) xpr_k14) xpr_k15) xpr_k16) xpr_k17) xpr_k18) xpr_k19) xpr_k20) xpr_k21) xpr_k22) xpr_k23) xpr_k24) xpr_k25) xpr_k26) xpr_k27) xpr_k28) xpr_k29) xpr_k30) xpr_k31)
end Go.Proofs.YtbigjeejmacjcaaGreatDoor
/- At every source impl.Print answers as the model spec.Print, writes into no argument and keeps nothing of one, and its answer owns its memory: the law FnExactPrint returns true, without a condition; the four variables on its road (impl.opSigns and three tables of the library) are tied to the text of the program (over the pruned copy of the project that the seat holds). -/
namespace Go.Proofs.YtbigjeejmacjcaaGreatDoor
open Go.ChangeShapes Go.WideShapes Go.ChangeAt Go.RowKit

set_option maxRecDepth 100000 in
theorem xpr_lifted (os : Os) (started : os.Started) (H : Type) (enc : TypeId × Value → H) :
    ReturnsInHanded {} Tryz.checked os 3 .any (fun w args => (Rows.fnExactPrintSpec.pre enc Tryz.prog Tryz.f3 [] false w args ∧ laidMetH Tryz.prog laid4 w) ∧ sizedMet enc Tryz.prog Tryz.f3 (OpenSpec.ofChange Rows.fnExactPrintSpec) false w args)
      (Rows.fnExactPrintSpec.post enc Tryz.prog Tryz.f3 false true false false) := by
  refine returnsInHanded_of_change_and (C := Tryz.checked) (X := fun w _ => laidMetH Tryz.prog laid4 w) (fun _ _ _ hh h => h.of_heap hh) own started (by kernel_rfl) Tryz.func3
    (ChangeSpec.witness_shaped (enc := enc) (C := Tryz.checked) (os := os) (X := fun w _ => laidMetH Tryz.prog laid4 w) false (World.doorLaid Tryz.prog 400 os) #[.agg #[.slice none 0 0, .slice none 0 0]] 8 rfl (World.shaped_of_RefB (by kernel_rfl) (by kernel_rfl)) (by kernel_rfl) (by kernel_rfl) (by kernel_rfl) (door_met os _)) ?_
  intro W base args ds gs before hval0 hW _ _ hL _
  have hval : ∀ (j : Nat) t v, Tryz.f3.params[j]? = some t → args[j]? = some v → Value.okWide Tryz.prog W .any base t v := hval0
  have hW' := hW
  obtain ⟨p, q, hA0, hV0, rfl, hfz, hnd⟩ := hW
  have hA : DataW.TrodAll enc Tryz.prog W 0 (fun _ => true) true Tryz.f3.params.toList args.toList ds p := hA0
  have hV : DataW.TrodVars enc Tryz.prog W (fun _ => true) ["loop.example/g00306/impl.opSigns"] gs q := hV0
  rw [Tryz.params3] at hA hval
  obtain ⟨v0, vs0, d0, ds0, p0, q0, hargs, rfl, rfl, h0, r0⟩ := trodAll_cons hA
  obtain ⟨rfl, rfl, rfl⟩ := trodAll_nil r0
  obtain rfl : args = #[v0] := by cases args; simp_all
  have hE := env_laid hL
  obtain ⟨cs, rfl, hsz⟩ := okWide_struct Tryz.underlying25 (hval 0 25 v0 rfl rfl)
  have k0 := h0
  have lt0 : ∀ x ∈ p0, x.block < W.heap.size := by obtain ⟨m, hm⟩ := k0; exact DataW.trod_lt m _ _ _ hm
  obtain ⟨fuel, hf⟩ := h0
  obtain ⟨x, u0, u1, hcs, hg, w0, w1⟩ := openSo hf
  obtain rfl : cs = #[u0, u1] := by cases cs; simpa [Value.cells] using hcs
  obtain ⟨g1, rfl⟩ : ∃ g, gs = [g] := by
    cases gs with
    | nil => exact hV.elim
    | cons a r =>
      obtain ⟨_, _, _, _, _, _, _, _, _, _, hr, _⟩ := hV
      cases r with
      | nil => exact ⟨a, rfl⟩
      | cons b r => exact hr.elim
  clear hA0 hV0 hval0
  refine (lawprint_any x u0 u1 W hE hg w0 w1).mono fun e W' ⟨he, bel⟩ => ?_
  subst he
  exact ⟨_, rfl, _, _, _, [], _, _, hW', trodAll_mk1 (shut_bool Tryz.underlying4 _), (trodAll_cons_mk (Below.trod laidOut (by kernel_rfl) (of_decide_eq_true (by kernel_rfl)) k0 bel lt0) trodAll_mk0), Below.trodVars laidOut bel (by kernel_rfl) hV, Below.frame bel _, fun h => by cases h⟩

end Go.Proofs.YtbigjeejmacjcaaGreatDoor
/- The row and the card of Print. -/
namespace Go.Proofs.YtbigjeejmacjcaaGreatDoor
open Go.ChangeShapes Go.WideShapes Go.ChangeAt Go.RowKit

theorem xpr_row : Rows.FnExactPrintSaid :=
  OpenClaim.holds_of_wide 3 Tryz.f3 rfl rfl rfl rfl rfl rfl rfl ⟨rfl, rfl, rfl, rfl, rfl⟩ rfl rfl rfl rfl rfl (by kernel_rfl) Tryz.func3 xpr_facts
    (of_decide_eq_true (by kernel_rfl)) (by unfold Func.isWrapper; first | (rw [if_pos (by decide +kernel)]; kernel_rfl) | (rw [if_neg (by decide +kernel)]; exact ⟨rfl, rfl⟩))
    (fun os started H enc _ => xpr_lifted os started H enc)

theorem xpr_holds : Rows.FnExactPrintCardSaid :=
  Claim7.holds_tied_plain_at .later [] [.data, .data, .data, .data] true Rows.fnExactPrintCard.stood.harness false
    xpr_row (fun _ h => by cases h) (by kernel_rfl) (fun _ h => by cases h) fnExactPrint_row_tie rfl ⟨rfl, rfl⟩ (by kernel_rfl) rfl
    (fun f fn hf hfn => by
      obtain rfl : f = 3 := Option.some.inj ((show Tryz.prog.funcNamed "loop.example/g00306/laws.FnExactPrint" = some 3 by kernel_rfl).symm.trans hf) |>.symm
      obtain rfl : fn = Tryz.f3 := (Option.some.inj (Tryz.func3.symm.trans hfn)).symm
      exact ⟨by kernel_rfl, fun j t ht => by
        rw [Tryz.params3] at ht
        have hm : t ∈ #[25] := Array.mem_of_getElem? ht
        have hall : #[25].all (fun t => !Tryz.prog.wantsStandIn t) = true := by kernel_rfl
        have h1 := Array.all_eq_true_iff_forall_mem.1 hall t hm
        have h2 : Tryz.prog.wantsStandIn t = false := by simpa using h1
        exact h2⟩)
    (by kernel_rfl)

end Go.Proofs.YtbigjeejmacjcaaGreatDoor
