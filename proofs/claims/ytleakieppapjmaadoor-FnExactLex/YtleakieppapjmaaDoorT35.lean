/- Calls inside a region that draws; the box of an argument. -/
import Derived.Test.YtleakieppapjmaaDoorT34
namespace Go.Proofs.YtleakieppapjmaaDoor
open Go.RowKit Go.Lib
def Enters (P : Program) (f : FuncId) : Prop := ∀ (args : Array Value) (w : World), (callFunc f args).run P w = .ok (.enter f args) w
theorem enters_of {P : Program} {f : FuncId} {fn : Func} (hf : P.funcs[f]? = some fn) (hname : (fn.name == "runtime.NumGoroutine") = false) (hb : fn.body.isNone = false) : Enters P f := by
  intro args w
  have h1 : ¬ fn.name = "runtime.NumGoroutine" := by simpa using hname
  have h2 : ¬ fn.body = none := by intro h; rw [h] at hb; cases hb
  simp [callFunc, hf, h1, h2]
theorem step_call {P : Program} {ops : Array Oper} {o : Oper} {a : Act} {w : World} {K : Act → World → Prop} {Q : Exit → Act → World → Prop} {E : Prop}
    (hg : o.guard = none) (f : FuncId) (he : Enters P f) (xs : List Operand) (ts : Array TypeId) (hop : o.op = Op.call { callee := Callee.value (Operand.func f), args := xs.toArray, argTypes := ts })
    (vs : List Value) (hv : xs.map a.eval = vs) (R : Value → World → Prop) (hc : Calls P f vs.toArray w fun e w' => ∃ v, e = .returned v ∧ R v w')
    (h : ∀ v w', R v w' → K (a.put o.dst v) w') :
    if Region.wanted o (yielded ops a.tmps) = true then Oper.wp P o a w K Q else E := by
  have hw : Region.wanted o (yielded ops a.tmps) = true := by simp [Region.wanted, hg]
  rw [if_pos hw]
  unfold Oper.wp
  have hr : (execOp a.eval o).run P w = .ok (.enter f vs.toArray) w := by
    subst hv
    have h1 := he (xs.map a.eval).toArray w
    simpa [execOp, hop, resolve, invoke, Act.eval, Deferred.ofValue] using h1
  rw [hr, Oper.upon_enter]
  refine hc.mono ?_
  rintro e w' ⟨v, rfl, hR⟩
  exact h v w' hR
theorem en_dec : Enters Tryd.prog 21 := enters_of Tryd.func21 (by kernel_rfl) (by kernel_rfl)
/-- Cells in a block of their own that is no row of bytes. -/
def BxT (b : Nat) (w : World) (cs : List Value) (t : TypeId) : Prop := w.heap[b]? = some (.cells cs.toArray t)
theorem BxT.new (w : World) (cs : List Value) (t : TypeId) : BxT w.heap.size (w.alloc (.cells cs.toArray t)) cs t := by
  show (w.heap.push _)[w.heap.size]? = _
  simp
theorem BxT.k8 {b : Nat} {A w : World} {cs : List Value} {t : TypeId} (h : BxT b A cs t) (k : K8 A w) (ht : t ≠ 5) : BxT b w cs t := by
  unfold BxT at h ⊢
  rw [k.2 b _ _ _ h ht]
  exact h
theorem BxT.cell {b : Nat} {w : World} {cs : List Value} {t : TypeId} (h : BxT b w cs t) (i : Nat) (u : Value) (hu : cs[i]? = some u) : w.cell? ⟨b, i, none⟩ = some u := by
  show (match w.heap[b]? with | some (.cells c _ _) => c[i]? | _ => none) = some u
  rw [h]
  show cs.toArray[i]? = some u
  rw [List.getElem?_toArray]
  exact hu
/-- A name's bytes, to be read in every later world. -/
theorem nm_cells {W : World} {v : Value} {nm : List Int} (h : RdN W v nm) (h1 : 1 ≤ nm.length) : ∃ g off q, v = .slice (some ⟨g, off, none⟩) nm.length q ∧ g < W.heap.size ∧ ∀ w', Later W w' → ∀ j u, (nm.map (Value.int .u8))[j]? = some u → w'.cell? ((⟨g, off, none⟩ : Addr).add j) = some u := by
  obtain ⟨y, q, rfl, hyl, hyb, hyc⟩ := h.rd
  obtain ⟨g0, off0, rfl, hg0, _⟩ := hyc 0 (by omega)
  refine ⟨g0, off0, q, rfl, hg0, fun w' hw j u hj => ?_⟩
  have hj' : j < nm.length := by
    rcases Nat.lt_or_ge j nm.length with h | h
    · exact h
    · rw [List.getElem?_eq_none (by simpa using h)] at hj; cases hj
  obtain ⟨g', off', e, _, hv⟩ := hyc j hj'
  cases e
  rw [Addr.add_lit, hw.cell (p := ⟨g0, off0 + j, none⟩) hg0, hv]
  rw [List.getElem?_map, List.getElem?_eq_getElem hj'] at hj
  rw [← hj, List.getD_eq_getElem?_getD, List.getElem?_eq_getElem hj']
  rfl
/-- A row's cells, as a source of what is put. -/
theorem row_cells {w : World} {base : Nat} {v : Value} {zs : List Int} (o : w.ownsRow base 5 1 v zs.length (zs.map (Value.int .u8))) (h1 : 1 ≤ zs.length) : ∃ g q, v = .slice (some ⟨g, 0, none⟩) zs.length q ∧ base ≤ g ∧ g < w.heap.size ∧ ∀ j u, (zs.map (Value.int .u8))[j]? = some u → w.cell? ((⟨g, 0, none⟩ : Addr).add j) = some u := by
  rcases o.2 with ⟨_, h0⟩ | ⟨g, q, cur, rfl, hb, hg, _⟩
  · omega
  refine ⟨g, q, rfl, hb, lt_of_some hg, fun j u hj => ?_⟩
  have hj' : j < zs.length := by
    rcases Nat.lt_or_ge j zs.length with h | h
    · exact h
    · rw [List.getElem?_eq_none (by simpa using h)] at hj; cases hj
  rw [Addr.add_lit, Nat.zero_add, o.cellAt j (by omega)]
  exact hj
theorem one_all (zs : List Int) : ∀ u ∈ zs.map (Value.int .u8), u.oneCell' = true := fun u hu => by
  obtain ⟨z, _, rfl⟩ := List.mem_map.1 hu
  rfl
end Go.Proofs.YtleakieppapjmaaDoor
