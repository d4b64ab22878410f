/- What every row of this seat wants: what the laid error gives, memories and bytes that came in, how a row is shut. Own text. -/
import Derived.Test.YtfmfkfijlfeimaaDoorJ1
import Derived.Test.YtfmfkfijlfeimaaDoorCards
import Derived.Test.YtfmfkfijlfeimaaDoorTie
import Derived.ProofKit
import Derived.OpenShut
import Derived.ShutString
import Derived.ChangeOld
import Derived.Below
import Derived.ChangeSame
import Derived.LaidMore
import Derived.Stop.LaidErr
import Derived.Stop.Joined
namespace Go.Proofs.YtfmfkfijlfeimaaDoor
open Go.ChangeShapes Go.WideShapes Go.ChangeAt Go.RowKit

theorem own : ownKnob Tryd.prog.godebug = none := by kernel_rfl
theorem laidOut : laidOutB Tryd.prog = true := by kernel_rfl
theorem gO : Tryd.prog.globalNamed "loop.example/g00306/impl.errOutside" = some 0 := by kernel_rfl
theorem gOT : (Tryd.prog.globals[0]?).map (·.type) = some 52 := by kernel_rfl
theorem cellsE : Tryd.prog.cellsOf 113 = 1 := by kernel_rfl
theorem cellsS : Tryd.prog.cellsOf 9 = 1 := by kernel_rfl
theorem cellsM : Tryd.prog.cellsOf 37 = 1 := by kernel_rfl
theorem star : "*" ++ "errors.errorString" = "*errors.errorString" := by decide
theorem rowE (u : TypeId) (h : Tryd.prog.typeName? 3 u = some "*errors.errorString") : u = 87 :=
  typeName_ptr_named (nm := "errors.errorString") (by rw [star]; kernel_rfl) (by kernel_rfl) (by decide) u (by rw [star]; exact h)

theorem lt_of_cell {w : World} {a : Addr} {v : Value} (h : w.cell? a = some v) : a.block < w.heap.size := by
  rcases Nat.lt_or_ge a.block w.heap.size with l | l
  · exact l
  · have : w.heap[a.block]? = none := Array.getElem?_eq_none l
    unfold World.cell? at h
    rw [this] at h
    cases h

/-- What the condition gives the walks: the variable's cell. -/
theorem of_laid {W : World} (h : laidMetH Tryd.prog [("loop.example/g00306/impl.errOutside", Rows.laid_loop_example_g00306_impl_errOutside)] W) : ∃ x, W.var? Tryd.prog "loop.example/g00306/impl.errOutside" = some #[errAt x] ∧ Box W 0 (errAt x) := by
  rw [MakeChecks.laidMetH_plain _ _ _ (by kernel_rfl)] at h
  obtain ⟨x, s, hv, _, _, _⟩ := laid_sentinel h gO gOT Tryd.underlying52 rowE Tryd.underlying87 Tryd.underlying113 rfl rfl Tryd.underlying9 cellsE cellsS
  have hc : W.cell? ⟨0, 0, none⟩ = some (errAt x) := by simpa using World.var?_cell gO hv 0
  exact ⟨x, hv, hc, lt_of_cell hc⟩

/-- The door's own heap meets the condition. -/
theorem door_met (os : Os) (args : Array Value) : laidMetH Tryd.prog [("loop.example/g00306/impl.errOutside", Rows.laid_loop_example_g00306_impl_errOutside)] ((World.doorLaid Tryd.prog 400 os).forCall (fun _ _ => 0) ⟨#[], args, []⟩).memory :=
  laidMetH_of_parts3 (fuel := 8) (laidMet_of_run' 8 (by kernel_rfl) (by kernel_rfl)) (by kernel_rfl) (by kernel_rfl)

theorem var_later {W W' : World} {cs : Array Value} (h : W.var? Tryd.prog "loop.example/g00306/impl.errOutside" = some cs) (hb : Later W W') : W'.var? Tryd.prog "loop.example/g00306/impl.errOutside" = some cs := by
  unfold World.var? at h ⊢
  rw [gO] at h ⊢
  simp only [Option.bind_some] at h ⊢
  have hlt : 0 < W.heap.size := by
    rcases Nat.lt_or_ge 0 W.heap.size with h' | h'
    · exact h'
    · simp [Array.getElem?_eq_none h'] at h
  rw [hb.block 0 hlt]
  exact h

theorem rd_of {w : World} {x : Addr} {len : Nat} {zs : List Int} (hl : len ≤ zs.length) (hm : zs.length ≤ maxLen)
    (hcell : ∀ i, i < zs.length → w.cell? (x.add i) = some (.int .i64 (zs.getD i 0))) (cap : Nat) : Rd w (.slice (some x) len cap) (zs.take len) := by
  unfold maxLen at hm
  have e : (zs.take len).length = len := by simp; omega
  refine ⟨some x, cap, by rw [e], by omega, fun j hj => ?_⟩
  rw [e] at hj
  obtain ⟨b, off, rfl, hc⟩ := ints_at hcell (by omega)
  have h1 := hc j (by omega)
  refine ⟨b, off, rfl, lt_of_cell h1, ?_⟩
  rw [h1, List.getD_eq_getElem?_getD, List.getD_eq_getElem?_getD, List.getElem?_take_of_lt hj]

set_option maxRecDepth 100000 in
/-- A memory that came in by value. -/
theorem open_mem {H : Type} {enc : TypeId × Value → H} {W : World} {base : Nat} {v : Value} {d : DataW H} {p : List MemPlace} (hv : Value.okWide Tryd.prog W .any base 37 v) (h : DataW.Trod enc Tryd.prog W 0 (fun _ => true) true 37 v d p) :
    ∃ a cap zs, v = .agg #[.slice a (zs : List Int).length cap] ∧ Rd W (.slice a zs.length cap) zs := by
  obtain ⟨cs, rfl, hsz⟩ := okWide_struct Tryd.underlying37 hv
  have h1 : cs.size = 1 := by rw [hsz, cellsM]
  obtain ⟨c0, rfl⟩ : ∃ c, cs = #[c] := Array.size_eq_one_iff.1 h1
  obtain ⟨fuel, hf⟩ := h
  obtain ⟨y0, n, _, _, h0⟩ := trod_struct1 Tryd.underlying37 hf
  have k : Tryd.prog.cellsOf 23 = 1 := by kernel_rfl
  have h0' : DataW.trod enc Tryd.prog W 0 (fun _ => true) true n 23 [c0] = some y0 := by simpa [Value.cells, k] using h0
  rcases open_ints Tryd.underlying23 Tryd.underlying3 (by kernel_rfl) h0' with ⟨hcs, _⟩ | ⟨x, l, c, zs, hcs, _, hl, hm, hz, _, hcell, hwz⟩
  · simp at hcs
    subst hcs
    exact ⟨none, 0, [], rfl, none, 0, rfl, by decide, fun j hj => absurd hj (Nat.not_lt_zero _)⟩
  · simp at hcs
    subst hcs
    have hz' : zs.length = c := by simpa using hz
    have e : (zs.take l).length = l := by simp; omega
    have hr := rd_of (w := W) (by omega : l ≤ zs.length) (by rw [hz']; exact hm) hcell c
    exact ⟨some x, c, zs.take l, by rw [e], by rw [e]; exact hr⟩

theorem inr_of {n : Int} (h : (Lit.int .i64 n).wf = true) : InR n := by
  simp only [Lit.wf, IntKind.min, IntKind.max, IntKind.signed, IntKind.bits, Bool.and_eq_true] at h
  unfold InR
  simpa using h

end Go.Proofs.YtfmfkfijlfeimaaDoor
