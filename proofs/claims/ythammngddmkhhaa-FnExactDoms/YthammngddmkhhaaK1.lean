/- Slices of bytes by the laws' own functions: read, copied, held against each other, marked. What was written where. -/
import Derived.Test.YthammngddmkhhaaD2
namespace Go.Proofs.Ythammngddmkhhaa
open Go.RowKit

theorem later2 (w : World) (o o' : Obj) : Later w ((w.alloc o).alloc o') := ((Below.refl _ _).alloc (Nat.le_refl _) _).alloc (by simp) _
theorem later1 (w : World) (o : Obj) : Later w (w.alloc o) := (Below.refl _ _).alloc (Nat.le_refl _) _
theorem later_drewN {w w' : World} (h : Later w w') (n : Nat) : Later w (w'.drewN n) := below_drewN h n
theorem grown_later {w w' : World} (h : w.grownBy w' none) : Later w w' := ⟨h.os, h.tape, h.output, h.size, fun k hk => h.block k hk (by simp)⟩
theorem ret_bool {a b : Bool} (h : a = b) : Ending.returned (.bool a) = .returned (.bool b) := by rw [h]
theorem eq_of_getD {xs ys : List Int} (hl : xs.length = ys.length) (h : ∀ j, j < xs.length → xs.getD j 0 = ys.getD j 0) : xs = ys := by
  apply List.ext_getElem hl
  intro j h1 h2
  have := h j h1
  rwa [List.getD_eq_getElem?_getD, List.getD_eq_getElem?_getD, List.getElem?_eq_getElem h1, List.getElem?_eq_getElem h2] at this

/-- A number that is a byte. -/
def isB (z : Int) : Prop := 0 ≤ z ∧ z ≤ 255
/-- A slice of bytes that can be read. -/
def RdB (w : World) (v : Value) (zs : List Int) : Prop :=
  ∃ a cap, v = .slice a zs.length cap ∧ (zs.length : Int) ≤ 9223372036854775807 ∧ (∀ j, isB (zs.getD j 0)) ∧
    ∀ j, j < zs.length → ∃ g off, a = some ⟨g, off, none⟩ ∧ g < w.heap.size ∧ w.cell? ⟨g, off + j, none⟩ = some (.int .u8 (zs.getD j 0))
theorem RdB.later {w w' : World} {v : Value} {zs : List Int} (h : RdB w v zs) (hb : Later w w') : RdB w' v zs := by
  obtain ⟨a, cap, rfl, hl, hz, hc⟩ := h
  refine ⟨a, cap, rfl, hl, hz, fun j hj => ?_⟩
  obtain ⟨g, off, rfl, hg, hv⟩ := hc j hj
  exact ⟨g, off, rfl, Nat.lt_of_lt_of_le hg hb.size, by rw [Below.cell hb (p := ⟨g, off + j, none⟩) hg]; exact hv⟩
theorem RdB.nil (w : World) : RdB w (.slice none 0 0) [] := ⟨none, 0, rfl, by decide, fun _ => ⟨by simp, by simp⟩, fun j hj => absurd hj (Nat.not_lt_zero _)⟩

theorem Try.info5 : (Try.prog.info? 5).map (fun i => (i.zero, i.size, i.bytes)) = some (some (.int .u8 0), 1, 1) := by kernel_rfl

theorem copyb_step {zs : List Int} {j : Nat} (h : j < zs.length) : ((zs.take j).map (Value.int .u8) ++ List.replicate (zs.length - j) (Value.int .u8 0)).set j (.int .u8 (zs.getD j 0)) = (zs.take (j + 1)).map (Value.int .u8) ++ List.replicate (zs.length - (j + 1)) (.int .u8 0) := by
  have hl : ((zs.take j).map (Value.int .u8)).length = j := by simp; omega
  rw [List.set_append_right _ _ (by rw [hl]; omega), hl, Nat.sub_self, List.take_succ_eq_append_getElem h, List.map_append, List.append_assoc]
  congr 1
  rw [show zs.length - j = (zs.length - (j + 1)) + 1 by omega, List.replicate_succ]
  rw [List.getD_eq_getElem?_getD, List.getElem?_eq_getElem h]
  rfl

theorem set_other {w : World} {a b : Addr} {v : Value} (h : a ≠ b) : (w.setCell a v).cell? b = w.cell? b := by apply World.cell?_setCell_other; exact h

/-- What was written where: w' is w but for these cells. -/
structure Wrote (w w' : World) (P : List (Addr × Value)) : Prop where
  os : w'.os = w.os
  tape : w'.tape = w.tape
  output : w'.output = w.output
  size : w'.heap.size = w.heap.size
  block : ∀ k, (∀ p ∈ P, p.1.block ≠ k) → w'.heap[k]? = w.heap[k]?
  frozen : ∀ a, w'.frozen? a = w.frozen? a
  cell : ∀ p ∈ P, w'.cell? p.1 = some p.2
  other : ∀ a, (∀ p ∈ P, p.1 ≠ a) → w'.cell? a = w.cell? a
theorem Wrote.nil (w : World) : Wrote w w [] := ⟨rfl, rfl, rfl, rfl, fun _ _ => rfl, fun _ => rfl, (fun _ h => by cases h), fun _ _ => rfl⟩
theorem Wrote.set {w w' : World} {P : List (Addr × Value)} (h : Wrote w w' P) {a : Addr} (hn : ∀ p ∈ P, p.1 ≠ a) {u : Value} (hc : w.cell? a = some u) (v : Value) : Wrote w (w'.setCell a v) (P ++ [(a, v)]) := by
  have hc' : w'.cell? a = some u := by rw [h.other a hn]; exact hc
  refine ⟨h.os, h.tape, h.output, by rw [World.size_setCell]; exact h.size, fun k hk => ?_, fun b => by rw [World.frozen?_setCell]; exact h.frozen b, fun p hp => ?_, fun b hb => ?_⟩
  · have h1 : a.block ≠ k := hk (a, v) (List.mem_append_right _ (List.mem_singleton.2 rfl))
    rw [Below.heap_setCell _ _ _ _ (Ne.symm h1)]
    exact h.block k (fun p hp => hk p (List.mem_append_left _ hp))
  · rcases List.mem_append.1 hp with hp | hp
    · rw [set_other (Ne.symm (hn p hp))]
      exact h.cell p hp
    · obtain rfl := List.mem_singleton.1 hp
      exact set_same hc'
  · rw [set_other (hb (a, v) (List.mem_append_right _ (List.mem_singleton.2 rfl)))]
    exact h.other b (fun p hp => hb p (List.mem_append_left _ hp))
theorem Wrote.trans {w w' w'' : World} {P Q : List (Addr × Value)} (h : Wrote w w' P) (k : Wrote w' w'' Q) (hd : ∀ p ∈ P, ∀ q ∈ Q, q.1 ≠ p.1) : Wrote w w'' (P ++ Q) := by
  refine ⟨k.os.trans h.os, k.tape.trans h.tape, k.output.trans h.output, k.size.trans h.size, fun b hb => ?_, fun a => (k.frozen a).trans (h.frozen a), fun p hp => ?_, fun a ha => ?_⟩
  · rw [k.block b (fun p hp => hb p (List.mem_append_right _ hp))]
    exact h.block b (fun p hp => hb p (List.mem_append_left _ hp))
  · rcases List.mem_append.1 hp with hp | hp
    · rw [k.other p.1 (fun q hq => hd p hp q hq)]
      exact h.cell p hp
    · exact k.cell p hp
  · rw [k.other a (fun p hp => ha p (List.mem_append_right _ hp))]
    exact h.other a (fun p hp => ha p (List.mem_append_left _ hp))
theorem Wrote.below {w w' : World} {P : List (Addr × Value)} (h : Wrote w w' P) {B : Nat} (hB : ∀ p ∈ P, B ≤ p.1.block) : Below B w w' :=
  ⟨h.os, h.tape, h.output, Nat.le_of_eq h.size.symm, fun k hk => h.block k (fun p hp => by have := hB p hp; omega)⟩

/-- The marks that a slice of bytes gets. -/
def bmarks (g off : Nat) (k : Int) (n : Nat) : List (Addr × Value) := (List.range n).map fun j : Nat => ((⟨g, off + j, none⟩ : Addr), Value.int .u8 (IntKind.u8.wrap (k + j)))
theorem bmarks_succ (g off : Nat) (k : Int) (n : Nat) : bmarks g off k (n + 1) = bmarks g off k n ++ [((⟨g, off + n, none⟩ : Addr), Value.int .u8 (IntKind.u8.wrap (k + n)))] := by simp [bmarks, List.range_succ]
theorem bmarks_mem {g off : Nat} {k : Int} {n : Nat} {p : Addr × Value} (h : p ∈ bmarks g off k n) : ∃ j, j < n ∧ p.1 = ⟨g, off + j, none⟩ ∧ p.2 = .int .u8 (IntKind.u8.wrap (k + j)) := by
  unfold bmarks at h
  obtain ⟨j, hj, rfl⟩ := List.mem_map.1 h
  exact ⟨j, List.mem_range.1 hj, rfl, rfl⟩

end Go.Proofs.Ythammngddmkhhaa
