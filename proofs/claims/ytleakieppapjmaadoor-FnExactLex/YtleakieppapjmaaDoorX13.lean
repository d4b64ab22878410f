/- What the laid variables give; a slice of bytes that came in. -/
import Derived.Test.YtleakieppapjmaaDoorMC
import Derived.Test.YtleakieppapjmaaDoorCards
import Derived.Test.YtleakieppapjmaaDoorTie
import Derived.ProofKit
import Derived.OpenShut
import Derived.ShutString
import Derived.OpenVars
import Derived.ChangeOld
import Derived.ChangeSame
import Derived.LaidMore
import Derived.Lib.LaidU8
import Derived.Stop.LaidErr
import Derived.Stop.Joined
namespace Go.Proofs.YtleakieppapjmaaDoor
open Go.ChangeShapes Go.WideShapes Go.ChangeAt Go.RowKit Go.Lib

theorem own : ownKnob Tryd.prog.godebug = none := by kernel_rfl
theorem laidOut : laidOutB Tryd.prog = true := by kernel_rfl
theorem gP10 : Tryd.prog.globalNamed "internal/strconv.uint64pow10" = some 3 := by kernel_rfl
theorem gB64 : Tryd.prog.globalNamed "math/bits.deBruijn64tab" = some 6 := by kernel_rfl
theorem tP10 : (Tryd.prog.globals[3]?).map (·.type) = some 104 := by kernel_rfl
theorem tB64 : (Tryd.prog.globals[6]?).map (·.type) = some 111 := by kernel_rfl
theorem gSy : Tryd.prog.globalNamed "strconv.ErrSyntax" = some 0 := by kernel_rfl
theorem gRa : Tryd.prog.globalNamed "strconv.ErrRange" = some 1 := by kernel_rfl
theorem tSy : (Tryd.prog.globals[0]?).map (·.type) = some 52 := by kernel_rfl
theorem tRa : (Tryd.prog.globals[1]?).map (·.type) = some 52 := by kernel_rfl
theorem cellsE : Tryd.prog.cellsOf 101 = 1 := by kernel_rfl
theorem cellsS : Tryd.prog.cellsOf 9 = 1 := by kernel_rfl
theorem star : "*" ++ "errors.errorString" = "*errors.errorString" := by decide
theorem rowE (u : TypeId) (h : Tryd.prog.typeName? 3 u = some "*errors.errorString") : u = 99 :=
  typeName_ptr_named (nm := "errors.errorString") (by rw [star]; kernel_rfl) (by kernel_rfl) (by decide) u (by rw [star]; exact h)
theorem tab_of {W : World} {name : String} {k : IntKind} {zs : List Int} {g : Nat} {t e : TypeId} {n : Nat} (hg : Tryd.prog.globalNamed name = some g) (hty : (Tryd.prog.globals[g]?).map (·.type) = some t) (ht : Tryd.prog.underlying t = some (.array n e)) (he : Tryd.prog.underlying e = some (.int k)) (hce : Tryd.prog.cellsOf e = 1) (hct : Tryd.prog.cellsOf t = n)
    (h : VarReads Tryd.prog W name (tabData k zs)) : TabIs Tryd.prog W name k zs := by
  obtain ⟨g', t', cs, fuel, p, hg', ht', hvar, hd⟩ := h
  obtain rfl := Option.some.inj (hg.symm.trans hg')
  obtain rfl := Option.some.inj (hty.symm.trans ht')
  unfold TabIs
  rw [hvar, ← cells_of_tab ht he hce hct hd]
def laid5 : List (String × DataW Unit) := [("math/bits.deBruijn32tab", Rows.laid_math_bits_deBruijn32tab), ("math/bits.deBruijn64tab", Rows.laid_math_bits_deBruijn64tab), ("internal/strconv.uint64pow10", Rows.laid_internal_strconv_uint64pow10), ("strconv.ErrRange", Rows.laid_strconv_ErrRange), ("strconv.ErrSyntax", Rows.laid_strconv_ErrSyntax)]
def tab64 : List Int := [0, 1, 56, 2, 57, 49, 28, 3, 61, 58, 42, 50, 38, 29, 17, 4, 62, 47, 59, 36, 45, 43, 51, 22, 53, 39, 33, 30, 24, 18, 12, 5, 63, 55, 48, 27, 60, 41, 37, 16, 46, 35, 44, 21, 52, 32, 23, 11, 54, 26, 40, 15, 34, 20, 31, 10, 25, 14, 19, 9, 13, 8, 7, 6]
theorem env_laid {W : World} (h : laidMetH Tryd.prog laid5 W) : LEnv W := by
  rw [MakeChecks.laidMetH_plain _ _ _ (by kernel_rfl)] at h
  have r1 : VarReads Tryd.prog W "math/bits.deBruijn64tab" (tabData .u8 tab64) := laidMet.reads h (by unfold laid5; simp only [List.mem_cons]; exact .inr (.inl rfl))
  have r2 : VarReads Tryd.prog W "internal/strconv.uint64pow10" (tabData .u64 pow10Tab) := laidMet.reads h (by unfold laid5; simp only [List.mem_cons]; exact .inr (.inr (.inl (by rfl))))
  have t1 := tab_of gB64 tB64 Tryd.underlying111 Tryd.underlying5 (by kernel_rfl) (by kernel_rfl) r1
  have t2 := tab_of gP10 tP10 Tryd.underlying104 Tryd.underlying42 (by kernel_rfl) (by kernel_rfl) r2
  have c1 : W.cell? ⟨6, 15, none⟩ = some (.int .u8 4) := t1.cell gB64 15 (by decide)
  have h3 : laidMet Tryd.prog [("strconv.ErrRange", Rows.laid_strconv_ErrRange), ("strconv.ErrSyntax", Rows.laid_strconv_ErrSyntax)] W := h.tail.tail.tail
  obtain ⟨x, s, hv, _, _, _⟩ := laid_sentinel h3 gRa tRa Tryd.underlying52 rowE Tryd.underlying99 Tryd.underlying101 rfl rfl Tryd.underlying9 cellsE cellsS
  obtain ⟨y, s2, hv2, _, _, _⟩ := laid_sentinel h3.tail gSy tSy Tryd.underlying52 rowE Tryd.underlying99 Tryd.underlying101 rfl rfl Tryd.underlying9 cellsE cellsS
  have cR : W.cell? ⟨1, 0, none⟩ = some (.iface 99 (.pointer (some x))) := by simpa using World.var?_cell gRa hv 0
  have cS : W.cell? ⟨0, 0, none⟩ = some (.iface 99 (.pointer (some y))) := by simpa using World.var?_cell gSy hv2 0
  exact ⟨t2, lt_of_cell c1, c1, ⟨_, _, cS⟩, ⟨_, _, cR⟩, lt_of_cell cS, lt_of_cell cR⟩
theorem door_met (os : Os) (args : Array Value) : laidMetH Tryd.prog laid5 ((World.doorLaid Tryd.prog 400 os).forCall (fun _ _ => 0) ⟨#[], args, []⟩).memory :=
  laidMetH_of_parts3 (fuel := 8) (laidMet_of_run' 8 (by kernel_rfl) (by kernel_rfl)) (by kernel_rfl) (by kernel_rfl)
theorem rdb_of {w : World} {x : Addr} {len cap : Nat} {zs : List Int} (hl : len ≤ zs.length) (hm : zs.length ≤ maxLen)
    (hcell : ∀ i, i < zs.length → w.cell? (x.add i) = some (.int .u8 (zs.getD i 0))) (hw : ∀ n ∈ zs, (Lit.int .u8 n).wf = true) : RdB w (.slice (some x) len cap) (zs.take len) := by
  unfold maxLen at hm
  have hlen : (zs.take len).length = len := by simp; omega
  have h3 : ∀ n ∈ zs, isB n := fun n hn => by
    have h2 := hw n hn
    simp only [Lit.wf, IntKind.min, IntKind.max, IntKind.signed, IntKind.bits, Bool.and_eq_true] at h2
    unfold isB
    simpa using h2
  refine ⟨some x, cap, by rw [hlen], by rw [hlen]; omega, fun j => ?_, fun j hj => ?_⟩
  · rw [List.getD_eq_getElem?_getD]
    rcases Nat.lt_or_ge j (zs.take len).length with h | h
    · rw [List.getElem?_eq_getElem h]
      exact h3 _ (List.mem_of_mem_take (List.getElem_mem _))
    · rw [List.getElem?_eq_none h]; exact ⟨by simp, by simp⟩
  · rw [hlen] at hj
    obtain ⟨b, off, rfl, hc⟩ := ints_at hcell (by omega)
    have h1 := hc j (by omega)
    refine ⟨b, off, rfl, lt_of_cell h1, ?_⟩
    rw [h1, List.getD_eq_getElem?_getD, List.getD_eq_getElem?_getD, List.getElem?_take_of_lt hj]

end Go.Proofs.YtleakieppapjmaaDoor
