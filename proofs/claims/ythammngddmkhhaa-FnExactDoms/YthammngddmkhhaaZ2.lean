/- Rows of one kind in a block of their own; do all edges lead to blocks? -/
import Derived.Test.YthammngddmkhhaaZ1
import Derived.Test.YthammngddmkhhaaY5
import Derived.Test.YthammngddmkhhaaT73
import Derived.Deep.RegionLaw
import Derived.Deep.RegionHeld3
namespace Go.Proofs.Ythammngddmkhhaa
open Go.RowKit

/-- A block whose cells are these, none frozen. -/
structure RX {α : Type} (f : α → Value) (d : α) (w : World) (g : Nat) (xs : List α) : Prop where
  lt : g < w.heap.size
  at_ : ∀ j, j < xs.length → w.cell? ⟨g, j, none⟩ = some (f (xs.getD j d)) ∧ w.frozen? ⟨g, j, none⟩ = false
abbrev RI := RX (α := Int) (Value.int .i64) 0
abbrev RB := RX (α := Bool) Value.bool false
theorem RX.block {α : Type} {f : α → Value} {d : α} {w w' : World} {g : Nat} {xs : List α} (h : RX f d w g xs) (hs : w.heap.size ≤ w'.heap.size) (hb : w'.heap[g]? = w.heap[g]?) : RX f d w' g xs := by
  refine ⟨Nat.lt_of_lt_of_le h.lt hs, fun j hj => ?_⟩
  obtain ⟨e1, e2⟩ := cell_block hb j
  rw [e1, e2]
  exact h.at_ j hj
theorem RX.later {α : Type} {f : α → Value} {d : α} {w w' : World} {g : Nat} {xs : List α} (h : RX f d w g xs) (l : Later w w') : RX f d w' g xs := h.block l.size (l.block g h.lt)
theorem getD_set {α : Type} (xs : List α) (j i : Nat) (a d : α) (hj : j < xs.length) : (xs.set j a).getD i d = if i = j then a else xs.getD i d := by
  rw [List.getD_eq_getElem?_getD, List.getD_eq_getElem?_getD, List.getElem?_set]
  by_cases h : j = i
  · subst h; simp [hj]
  · rw [if_neg h, if_neg (fun e => h e.symm)]
theorem RX.set {α : Type} {f : α → Value} {d : α} {w : World} {g : Nat} {xs : List α} (h : RX f d w g xs) (j : Nat) (hj : j < xs.length) (a : α) : RX f d (w.setCell ⟨g, j, none⟩ (f a)) g (xs.set j a) := by
  refine ⟨by rw [World.size_setCell]; exact h.lt, fun i hi => ?_⟩
  rw [List.length_set] at hi
  refine ⟨?_, by rw [World.frozen?_setCell]; exact (h.at_ i hi).2⟩
  rw [getD_set _ _ _ _ _ hj]
  by_cases e : i = j
  · subst e
    rw [if_pos rfl]
    exact set_same (h.at_ i hi).1
  · rw [if_neg e, set_off _ _ _ (by omega)]
    exact (h.at_ i hi).1
theorem RX.other {α : Type} {f : α → Value} {d : α} {w : World} {g : Nat} {xs : List α} (h : RX f d w g xs) {g' o : Nat} (hg : g' ≠ g) (v : Value) : RX f d (w.setCell ⟨g', o, none⟩ v) g xs :=
  h.block (by rw [World.size_setCell]; exact Nat.le_refl _) (Below.heap_setCell _ _ _ _ (fun e => hg e.symm))
theorem RX.made {α : Type} {f : α → Value} {d : α} {w : World} {g base n cap : Nat} {e : TypeId} {z : α} (hz : (f z).cells = #[f z]) (o : w.ownsRow base e 1 (.slice (some ⟨g, 0, none⟩) n cap) n (madeCells (f z).cells (n * 1)).toList) : RX f d w g (List.replicate n z) := by
  have e : (madeCells (f z).cells (n * 1)).toList = List.replicate n (f z) := by rw [Nat.mul_one, hz]; exact toList_madeCells_one _ _
  rw [e] at o
  refine ⟨(o.lt g rfl).2, fun j hj => ⟨?_, o.frozenAt j⟩⟩
  rw [List.length_replicate] at hj
  rw [o.cellAt j (by omega), List.getElem?_replicate, if_pos hj, List.getD_eq_getElem?_getD, List.getElem?_replicate, if_pos hj]
  rfl
theorem step_make {P : Program} {ops : Array Oper} {o : Oper} {a : Act} {w : World} {K : Act → World → Prop} {Q : Exit → Act → World → Prop} {E : Prop}
    (hg : o.guard = none) (l c : Operand) (t : TypeId) (hop : o.op = Op.makeSlice t l c)
    (base : Nat) (e : TypeId) (i : TypeInfo) (z : Value) (size : Nat) (h1 : P.underlying t = some (.slice e)) (h2 : P.info? e = some i) (h3 : i.zero = some z) (h4 : i.size = size)
    (kl kc : IntKind) (L C : Int) (n : Nat) (hl : a.eval l = .int kl L) (hc : a.eval c = .int kc C) (hL : L = (n : Int)) (hC : C = (n : Int)) (b2 : i.bytes * n ≤ 281474976710656) (b3 : n ≤ maxLen) (b4 : base ≤ w.heap.size)
    (h : ∀ w', w'.ownsRow base e size (.slice (some ⟨w.heap.size, 0, none⟩) n n) n (madeCells z.cells (n * size)).toList → w.grownBy w' none → K (a.put o.dst (.slice (some ⟨w.heap.size, 0, none⟩) n n)) w') :
    if Region.wanted o (yielded ops a.tmps) = true then Oper.wp P o a w K Q else E := by
  have hw : Region.wanted o (yielded ops a.tmps) = true := by simp [Region.wanted, hg]
  rw [if_pos hw]
  obtain ⟨w', hrun, r1, r2⟩ := run_make_full (P := P) w base t e i z size h1 h2 h3 h4 kl kc n b2 b3 b4
  subst hL
  subst hC
  unfold Oper.wp
  simp [execOp, hop, hl, hc, hrun, Result.andThen]
  exact h w' r1 r2
theorem hid_ex2 {α : Type} (x : α) : ∃ T, Hid (T = x) := ⟨x, rfl⟩

theorem place_yes {i n : Int} (h0 : 0 ≤ i) (h1 : i < n) (w : World) : Calls Try.prog 39 #[.int .i64 i, .int .i64 n] w fun e w' => e = .returned (.bool true) ∧ w' = w := by
  go_enter Try.func39, Try.ntmps39
  go_wp2
  go_ret
  exact ⟨rfl, rfl⟩
theorem place_no {i n : Int} (h : ¬ (0 ≤ i ∧ i < n)) (w : World) : Calls Try.prog 39 #[.int .i64 i, .int .i64 n] w fun e w' => e = .returned (.bool false) ∧ w' = w := by
  by_cases h0 : 0 ≤ i
  · have h1 : ¬ i < n := by omega
    clear h
    go_enter Try.func39, Try.ntmps39
    go_wp2
    go_ret
    exact ⟨rfl, rfl⟩
  · clear h
    go_enter Try.func39, Try.ntmps39
    go_wp2
    go_ret
    exact ⟨rfl, rfl⟩

/-- Do all edges of all blocks lead to blocks? -/
def LeadP (x : Fc) (w : World) (e : Ending) (w' : World) : Prop := ∃ b : Bool, e = .returned (.bool b) ∧ (b = true ↔ x.lead) ∧ Later w w'
set_option maxRecDepth 20000 in
set_option maxHeartbeats 2000000 in
theorem ilead_any (x : Fc) (bv : Value) (w : World) (h : RdL w 5 bv (Bl.dats x.blocks)) : Calls Try.prog 22 #[bv] w (LeadP x w) := by
  obtain ⟨a, cap, rfl, hl⟩ := Bl.slice h
  have HN : Hid (∀ w' (k : Nat) (hk : k < x.blocks.length) (m : Nat) (hm : m < x.blocks[k].out.length), Later w w' → ¬ (0 ≤ x.blocks[k].out[m].to ∧ x.blocks[k].out[m].to < (x.blocks.length : Int)) → LeadP x w (.returned (.bool false)) w') := fun w' k hk m hm l hn => ⟨false, rfl, ⟨fun q => (by cases q), fun q => absurd (q k hk _ (List.getElem_mem hm)) hn⟩, l⟩
  have HY : Hid (∀ w', Later w w' → (∀ (k : Nat) (hk : k < x.blocks.length), ∀ e ∈ x.blocks[k].out, 0 ≤ e.to ∧ e.to < (x.blocks.length : Int)) → LeadP x w (.returned (.bool true)) w') := fun w' l hy => ⟨true, rfl, ⟨fun _ => hy, fun _ => rfl⟩, l⟩
  generalize hQ : LeadP x w = Q at *
  clear hQ
  go_enter Try.func22, Try.ntmps22
  go_wp2_with fail
  go_loopw [9] (fun i wr => ∃ (j : Nat), i = .int .i64 (j : Int) ∧ j ≤ x.blocks.length ∧ Later w wr ∧ Hid (∀ (k : Nat) (hk : k < x.blocks.length), k < j → ∀ e ∈ x.blocks[k].out, 0 ≤ e.to ∧ e.to < (x.blocks.length : Int))) (fun i _ => x.blocks.length - (intOf i).toNat)
  case atStart => exact ⟨0, rfl, Nat.zero_le _, Later.refl _, fun k _ hk => absurd hk (Nat.not_lt_zero _)⟩
  case round =>
    obtain ⟨j, rfl, hj, lr, hH⟩ := hrel
    generalize wr = wo at *
    by_cases hlt : j < x.blocks.length
    · obtain ⟨g, off, v0, v1, v2, v3, rfl, hg, c0, c1, c2, c3, c4, r0, r1, r2, r3⟩ := Bl.elem (RdL.later lr h) j hlt
      obtain ⟨a0, p0, rfl, _⟩ := In.slice r0
      obtain ⟨a1, p1, rfl, _⟩ := In.slice r1
      obtain ⟨a2, p2, rfl, _⟩ := In.slice r2
      obtain ⟨a3, p3, rfl, hl3⟩ := Ed.slice r3
      have i1 : (j : Int) < (x.blocks.length : Int) := by omega
      generalize x.blocks[j].term = tm at *
      clear r0 r1 r2
      go_wp2_with fail
      go_loopw [16] (fun i wi => ∃ (m : Nat), i = .int .i64 (m : Int) ∧ m ≤ x.blocks[j].out.length ∧ Later wo wi ∧ Hid (∀ (q : Nat) (hq : q < x.blocks[j].out.length), q < m → 0 ≤ x.blocks[j].out[q].to ∧ x.blocks[j].out[q].to < (x.blocks.length : Int))) (fun i _ => x.blocks[j].out.length - (intOf i).toNat)
      case atStart => exact ⟨0, rfl, Nat.zero_le _, later1 _ _, fun q _ hq => absurd hq (Nat.not_lt_zero _)⟩
      case round =>
        obtain ⟨m, rfl, hm, li, hI⟩ := hrel
        by_cases hlt2 : m < x.blocks[j].out.length
        · obtain ⟨g', off', u0, e', hg', d0, d1, s0⟩ := Ed.elem (RdL.later li r3) m hlt2
          obtain ⟨b0, y0, rfl, _⟩ := In.slice s0
          subst e'
          have i2 : (m : Int) < (x.blocks[j].out.length : Int) := by omega
          obtain ⟨T, hT⟩ := hid_ex2 x.blocks[j].out[m].to
          rw [← hT.out] at d0
          by_cases hok : 0 ≤ T ∧ T < (x.blocks.length : Int)
          · have hI2 : Hid (∀ (q : Nat) (hq : q < x.blocks[j].out.length), q < m + 1 → 0 ≤ x.blocks[j].out[q].to ∧ x.blocks[j].out[q].to < (x.blocks.length : Int)) := fun q hq hqm => by
              rcases Nat.lt_or_ge q m with z | z
              · exact hI.out q hq z
              · obtain rfl : q = m := by omega
                rw [← hT.out]; exact hok
            have hp := place_yes hok.1 hok.2
            clear hok
            go_wp2_with fail
            refine (hp _).mono ?_
            rintro e w2 ⟨rfl, hw⟩
            obtain rfl := hw.symm
            clear hw
            go_wp2_with fail
            go_roundw
            case rel => exact ⟨m + 1, by go_num, by omega, li.trans (later1 _ _), hI2⟩
            case measure => simp [intOf]; omega
          · have HA : Hid (∀ o, Q (.returned (.bool false)) (wr.alloc o)) := fun o => HN.out _ j hlt m hlt2 (lr.trans (li.trans (later1 wr o))) (by rw [← hT.out]; exact hok)
            have hp := place_no hok
            clear hok HN HY
            go_wp2_with fail
            refine (hp _).mono ?_
            rintro e w2 ⟨rfl, hw⟩
            obtain rfl := hw.symm
            clear hw
            go_wp2_with fail
            exact HA.out _
        · have i2 : ¬ (m : Int) < (x.blocks[j].out.length : Int) := by omega
          have hH2 : Hid (∀ (k : Nat) (hk : k < x.blocks.length), k < j + 1 → ∀ e ∈ x.blocks[k].out, 0 ≤ e.to ∧ e.to < (x.blocks.length : Int)) := fun k hk hkj e he => by
            rcases Nat.lt_or_ge k j with z | z
            · exact hH.out k hk z e he
            · obtain rfl : k = j := by omega
              obtain ⟨q, hq, rfl⟩ := List.getElem_of_mem he
              exact hI.out q hq (by omega)
          go_wp2_with fail
          go_roundw
          case rel => exact ⟨j + 1, by go_num, by omega, lr.trans li, hH2⟩
          case measure => simp [intOf]; omega
    · have i1 : ¬ (j : Int) < (x.blocks.length : Int) := by omega
      have HA := HY.out wo lr (fun k hk => hH.out k hk (by omega))
      clear HN HY
      go_wp2_with fail
      exact HA
end Go.Proofs.Ythammngddmkhhaa
