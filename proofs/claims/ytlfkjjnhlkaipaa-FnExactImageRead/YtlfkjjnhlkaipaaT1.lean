/- Data as trees: how they are read out of memory, and how they own it. -/
import Derived.Test.YtlfkjjnhlkaipaaK1
namespace Go.Proofs.Ytlfkjjnhlkaipaa
open Go.RowKit

/-- Bytes that can be read, with room for them. -/
structure RdN (w : World) (v : Value) (zs : List Int) : Prop where
  rd : RdB w v zs
  cap : ∃ a cap, v = .slice a zs.length cap ∧ zs.length ≤ cap ∧ cap ≤ maxLen
theorem RdN.later {w w' : World} {v : Value} {zs : List Int} (h : RdN w v zs) (hb : Later w w') : RdN w' v zs := ⟨h.rd.later hb, h.cap⟩

/-- A datum: an int; a bool; bytes; parts that lie side by side; a list whose elements take so many cells each. -/
inductive Dat where
  | int (n : Int)
  | bool (b : Bool)
  | bytes (zs : List Int)
  | agg (fs : List Dat)
  | list (k : Nat) (l : List Dat)

mutual
/-- These cells can be read as the datum. -/
def RdD (w : World) : Dat → List Value → Prop
  | .int n, cs => cs = [.int .i64 n]
  | .bool b, cs => cs = [.bool b]
  | .bytes zs, cs => ∃ v, cs = [v] ∧ RdN w v zs
  | .agg fs, cs => RdAgg w fs cs
  | .list k l, cs => ∃ a cap, cs = [.slice a l.length cap] ∧ (l.length ≤ cap ∧ cap ≤ maxLen) ∧ RdAll w k a 0 l
def RdAgg (w : World) : List Dat → List Value → Prop
  | [], cs => cs = []
  | d :: r, cs => ∃ c1 c2, cs = c1 ++ c2 ∧ RdD w d c1 ∧ RdAgg w r c2
def RdAll (w : World) (k : Nat) (a : Option Addr) : Nat → List Dat → Prop
  | _, [] => True
  | i, d :: r => (∃ g off cs, a = some ⟨g, off, none⟩ ∧ g < w.heap.size ∧ cs.length = k ∧ (∀ m u, cs[m]? = some u → w.cell? ⟨g, off + i * k + m, none⟩ = some u) ∧ RdD w d cs) ∧ RdAll w k a (i + 1) r
end

mutual
theorem RdD.later {w w' : World} (hb : Later w w') : ∀ (d : Dat) {cs : List Value}, RdD w d cs → RdD w' d cs
  | .int n, cs, h => by rw [RdD] at h ⊢; exact h
  | .bool n, cs, h => by rw [RdD] at h ⊢; exact h
  | .bytes zs, cs, h => by
    rw [RdD] at h ⊢
    obtain ⟨v, e, hr⟩ := h
    exact ⟨v, e, hr.later hb⟩
  | .agg fs, cs, h => by rw [RdD] at h ⊢; exact RdAgg.later hb fs h
  | .list k l, cs, h => by
    rw [RdD] at h ⊢
    obtain ⟨a, cap, e, hl, hr⟩ := h
    exact ⟨a, cap, e, hl, RdAll.later hb l hr⟩
theorem RdAgg.later {w w' : World} (hb : Later w w') : ∀ (fs : List Dat) {cs : List Value}, RdAgg w fs cs → RdAgg w' fs cs
  | [], cs, h => by rw [RdAgg] at h ⊢; exact h
  | d :: r, cs, h => by
    rw [RdAgg] at h ⊢
    obtain ⟨c1, c2, e, h1, h2⟩ := h
    exact ⟨c1, c2, e, RdD.later hb d h1, RdAgg.later hb r h2⟩
theorem RdAll.later {w w' : World} (hb : Later w w') {k : Nat} {a : Option Addr} : ∀ (l : List Dat) {i : Nat}, RdAll w k a i l → RdAll w' k a i l
  | [], i, _ => by rw [RdAll]; trivial
  | d :: r, i, h => by
    rw [RdAll] at h ⊢
    obtain ⟨⟨g, off, cs, e, hg, hk, hc, hd⟩, hr⟩ := h
    exact ⟨⟨g, off, cs, e, Nat.lt_of_lt_of_le hg hb.size, hk, fun m u hm => by rw [Below.cell hb (p := ⟨g, off + i * k + m, none⟩) hg]; exact hc m u hm, RdD.later hb d hd⟩, RdAll.later hb r hr⟩
end

theorem RdAll.at {w : World} {k : Nat} {a : Option Addr} : ∀ (l : List Dat) {i : Nat}, RdAll w k a i l → ∀ j (hj : j < l.length), ∃ g off cs, a = some ⟨g, off, none⟩ ∧ g < w.heap.size ∧ cs.length = k ∧ (∀ m u, cs[m]? = some u → w.cell? ⟨g, off + (i + j) * k + m, none⟩ = some u) ∧ RdD w l[j] cs
  | d :: r, i, h, 0, _ => by rw [RdAll] at h; exact h.1
  | d :: r, i, h, j + 1, hj => by
    rw [RdAll] at h
    have := RdAll.at r h.2 j (by simpa using hj)
    rw [show i + 1 + j = i + (j + 1) by omega] at this
    exact this
theorem RdAll.of {w : World} {k : Nat} {a : Option Addr} : ∀ (l : List Dat) {i : Nat}, (∀ j (hj : j < l.length), ∃ g off cs, a = some ⟨g, off, none⟩ ∧ g < w.heap.size ∧ cs.length = k ∧ (∀ m u, cs[m]? = some u → w.cell? ⟨g, off + (i + j) * k + m, none⟩ = some u) ∧ RdD w l[j] cs) → RdAll w k a i l
  | [], i, _ => by rw [RdAll]; trivial
  | d :: r, i, h => by
    rw [RdAll]
    refine ⟨h 0 (by simp), RdAll.of r fun j hj => ?_⟩
    have := h (j + 1) (by simpa using hj)
    rw [show i + (j + 1) = i + 1 + j by omega] at this
    exact this

/-- A slice whose elements can be read. -/
def RdL (w : World) (k : Nat) (v : Value) (l : List Dat) : Prop := ∃ a cap, v = .slice a l.length cap ∧ (l.length ≤ cap ∧ cap ≤ maxLen) ∧
  ∀ j (hj : j < l.length), ∃ g off cs, a = some ⟨g, off, none⟩ ∧ g < w.heap.size ∧ cs.length = k ∧ (∀ m u, cs[m]? = some u → w.cell? ⟨g, off + j * k + m, none⟩ = some u) ∧ RdD w l[j] cs
theorem RdL.iff {w : World} {k : Nat} {l : List Dat} {cs : List Value} : RdD w (.list k l) cs ↔ ∃ v, cs = [v] ∧ RdL w k v l := by
  rw [RdD]
  constructor
  · rintro ⟨a, cap, rfl, hl, h⟩
    exact ⟨_, rfl, a, cap, rfl, hl, fun j hj => by have := RdAll.at l h j hj; rwa [Nat.zero_add] at this⟩
  · rintro ⟨v, rfl, a, cap, rfl, hl, h⟩
    exact ⟨a, cap, rfl, hl, RdAll.of l fun j hj => by rw [Nat.zero_add]; exact h j hj⟩
theorem RdL.later {w w' : World} (hb : Later w w') {k : Nat} {v : Value} {l : List Dat} (h : RdL w k v l) : RdL w' k v l := by
  have := RdD.later hb (.list k l) (cs := [v]) (RdL.iff.2 ⟨v, rfl, h⟩)
  obtain ⟨v', e, h'⟩ := RdL.iff.1 this
  cases e
  exact h'
theorem RdL.cap {w : World} {k : Nat} {v : Value} {l : List Dat} (h : RdL w k v l) : ∃ a cap, v = .slice a l.length cap ∧ l.length ≤ cap ∧ cap ≤ maxLen := by
  obtain ⟨a, cap, e, hl, _⟩ := h
  exact ⟨a, cap, e, hl⟩
theorem RdL.slice {w : World} {k : Nat} {v : Value} {l : List Dat} (h : RdL w k v l) : ∃ a cap, v = .slice a l.length cap ∧ (l.length : Int) ≤ 9223372036854775807 := by
  obtain ⟨a, cap, e, hl, hm⟩ := h.cap
  exact ⟨a, cap, e, by unfold maxLen at hm; omega⟩
theorem RdN.iff {w : World} {zs : List Int} {cs : List Value} : RdD w (.bytes zs) cs ↔ ∃ v, cs = [v] ∧ RdN w v zs := by rw [RdD]
theorem RdB.slice {w : World} {v : Value} {zs : List Int} (h : RdB w v zs) : ∃ a cap, v = .slice a zs.length cap ∧ (zs.length : Int) ≤ 9223372036854775807 := by
  obtain ⟨a, cap, e, hl, _⟩ := h
  exact ⟨a, cap, e, hl⟩
theorem RdN.slice {w : World} {v : Value} {zs : List Int} (h : RdN w v zs) : ∃ a cap, v = .slice a zs.length cap ∧ (zs.length : Int) ≤ 9223372036854775807 := h.rd.slice

/-- So many cells does a datum take. -/
def wid : Dat → Nat
  | .agg fs => fs.length
  | _ => 1

mutual
/-- These cells are the datum, whose memory lies in the blocks F, one for each slice that is not empty, none twice. -/
def OwnD (w : World) : Dat → List Value → List Nat → Prop
  | .int n, cs, F => cs = [.int .i64 n] ∧ F = []
  | .bool b, cs, F => cs = [.bool b] ∧ F = []
  | .bytes zs, cs, F => ∃ a cap, cs = [.slice a zs.length cap] ∧ (zs.length ≤ 1048576 ∧ zs.length ≤ cap ∧ cap ≤ maxLen) ∧ (∀ j, isB (zs.getD j 0)) ∧
      (0 < zs.length → ∃ g, a = some ⟨g, 0, none⟩ ∧ F = [g] ∧ g < w.heap.size ∧ ∀ j, j < zs.length → w.cell? ⟨g, j, none⟩ = some (.int .u8 (zs.getD j 0)) ∧ w.frozen? ⟨g, j, none⟩ = false) ∧ (zs.length = 0 → F = [])
  | .agg fs, cs, F => OwnAgg w fs cs F
  | .list k l, cs, F => ∃ a cap, cs = [.slice a l.length cap] ∧ (l.length ≤ 1048576 ∧ l.length ≤ cap ∧ cap ≤ maxLen) ∧
      (0 < l.length → ∃ g F', a = some ⟨g, 0, none⟩ ∧ F = g :: F' ∧ g < w.heap.size ∧ OwnAll w k g 0 l F') ∧ (l.length = 0 → F = [])
def OwnAgg (w : World) : List Dat → List Value → List Nat → Prop
  | [], cs, F => cs = [] ∧ F = []
  | d :: r, cs, F => ∃ c1 c2 F1 F2, cs = c1 ++ c2 ∧ F = F1 ++ F2 ∧ OwnD w d c1 F1 ∧ OwnAgg w r c2 F2
def OwnAll (w : World) (k : Nat) (g : Nat) : Nat → List Dat → List Nat → Prop
  | _, [], F => F = []
  | i, d :: r, F => ∃ cs F1 F2, F = F1 ++ F2 ∧ cs.length = k ∧ (∀ m u, cs[m]? = some u → w.cell? ⟨g, i * k + m, none⟩ = some u ∧ w.frozen? ⟨g, i * k + m, none⟩ = false) ∧ OwnD w d cs F1 ∧ OwnAll w k g (i + 1) r F2
end

mutual
/-- What is owned can be read. -/
theorem OwnD.rd {w : World} : ∀ (d : Dat) {cs : List Value} {F : List Nat}, OwnD w d cs F → RdD w d cs
  | .int n, cs, F, h => by rw [OwnD] at h; rw [RdD]; exact h.1
  | .bool n, cs, F, h => by rw [OwnD] at h; rw [RdD]; exact h.1
  | .bytes zs, cs, F, h => by
    rw [OwnD] at h
    rw [RdD]
    obtain ⟨a, cap, rfl, hl, hb, hc, _⟩ := h
    refine ⟨_, rfl, ⟨a, cap, rfl, by omega, hb, fun j hj => ?_⟩, ⟨a, cap, rfl, hl.2⟩⟩
    obtain ⟨g, rfl, _, hg, hh⟩ := hc (by omega)
    exact ⟨g, 0, rfl, hg, by rw [Nat.zero_add]; exact (hh j hj).1⟩
  | .agg fs, cs, F, h => by rw [OwnD] at h; rw [RdD]; exact OwnAgg.rd fs h
  | .list k l, cs, F, h => by
    rw [OwnD] at h
    rw [RdD]
    obtain ⟨a, cap, rfl, hl, hc, _⟩ := h
    refine ⟨a, cap, rfl, hl.2, ?_⟩
    match l, hc with
    | [], _ => rw [RdAll]; trivial
    | d :: r, hc =>
      obtain ⟨g, F', rfl, _, hg, hh⟩ := hc (by simp)
      exact OwnAll.rd (d :: r) hg hh
theorem OwnAgg.rd {w : World} : ∀ (fs : List Dat) {cs : List Value} {F : List Nat}, OwnAgg w fs cs F → RdAgg w fs cs
  | [], cs, F, h => by rw [OwnAgg] at h; rw [RdAgg]; exact h.1
  | d :: r, cs, F, h => by
    rw [OwnAgg] at h
    rw [RdAgg]
    obtain ⟨c1, c2, F1, F2, e, _, h1, h2⟩ := h
    exact ⟨c1, c2, e, OwnD.rd d h1, OwnAgg.rd r h2⟩
theorem OwnAll.rd {w : World} {k g : Nat} : ∀ (l : List Dat) {i : Nat} {F : List Nat}, g < w.heap.size → OwnAll w k g i l F → RdAll w k (some ⟨g, 0, none⟩) i l
  | [], i, F, _, _ => by rw [RdAll]; trivial
  | d :: r, i, F, hg, h => by
    rw [OwnAll] at h
    rw [RdAll]
    obtain ⟨cs, F1, F2, _, hk, hc, hd, hr⟩ := h
    exact ⟨⟨g, 0, cs, rfl, hg, hk, fun m u hm => by rw [Nat.zero_add]; exact (hc m u hm).1, OwnD.rd d hd⟩, OwnAll.rd r hg hr⟩
end

mutual
/-- It hangs on its own blocks alone. -/
theorem OwnD.agree {w w' : World} (hs : w.heap.size ≤ w'.heap.size) : ∀ (d : Dat) {cs : List Value} {F : List Nat}, OwnD w d cs F → (∀ b ∈ F, w'.heap[b]? = w.heap[b]?) → OwnD w' d cs F
  | .int n, cs, F, h, _ => by rw [OwnD] at h ⊢; exact h
  | .bool n, cs, F, h, _ => by rw [OwnD] at h ⊢; exact h
  | .bytes zs, cs, F, h, ha => by
    rw [OwnD] at h ⊢
    obtain ⟨a, cap, e, hl, hb, hc, h0⟩ := h
    refine ⟨a, cap, e, hl, hb, fun hp => ?_, h0⟩
    obtain ⟨g, rfl, rfl, hg, hh⟩ := hc hp
    have hbl := ha g (List.mem_singleton.2 rfl)
    refine ⟨g, rfl, rfl, by omega, fun j hj => ?_⟩
    have := hh j hj
    exact ⟨by rw [show w'.cell? ⟨g, j, none⟩ = w.cell? ⟨g, j, none⟩ from by unfold World.cell?; rw [show w'.heap[(⟨g, j, none⟩ : Addr).block]? = w.heap[(⟨g, j, none⟩ : Addr).block]? from hbl]]; exact this.1, by rw [show w'.frozen? ⟨g, j, none⟩ = w.frozen? ⟨g, j, none⟩ from by unfold World.frozen?; rw [show w'.heap[(⟨g, j, none⟩ : Addr).block]? = w.heap[(⟨g, j, none⟩ : Addr).block]? from hbl]]; exact this.2⟩
  | .agg fs, cs, F, h, ha => by rw [OwnD] at h ⊢; exact OwnAgg.agree hs fs h ha
  | .list k l, cs, F, h, ha => by
    rw [OwnD] at h ⊢
    obtain ⟨a, cap, e, hl, hc, h0⟩ := h
    refine ⟨a, cap, e, hl, fun hp => ?_, h0⟩
    obtain ⟨g, F', rfl, rfl, hg, hh⟩ := hc hp
    exact ⟨g, F', rfl, rfl, by omega, OwnAll.agree hs l hh (ha g (List.mem_cons_self ..)) (fun b hb => ha b (List.mem_cons_of_mem _ hb))⟩
theorem OwnAgg.agree {w w' : World} (hs : w.heap.size ≤ w'.heap.size) : ∀ (fs : List Dat) {cs : List Value} {F : List Nat}, OwnAgg w fs cs F → (∀ b ∈ F, w'.heap[b]? = w.heap[b]?) → OwnAgg w' fs cs F
  | [], cs, F, h, _ => by rw [OwnAgg] at h ⊢; exact h
  | d :: r, cs, F, h, ha => by
    rw [OwnAgg] at h ⊢
    obtain ⟨c1, c2, F1, F2, e, rfl, h1, h2⟩ := h
    exact ⟨c1, c2, F1, F2, e, rfl, OwnD.agree hs d h1 (fun b hb => ha b (List.mem_append_left _ hb)), OwnAgg.agree hs r h2 (fun b hb => ha b (List.mem_append_right _ hb))⟩
theorem OwnAll.agree {w w' : World} (hs : w.heap.size ≤ w'.heap.size) {k g : Nat} : ∀ (l : List Dat) {i : Nat} {F : List Nat}, OwnAll w k g i l F → w'.heap[g]? = w.heap[g]? → (∀ b ∈ F, w'.heap[b]? = w.heap[b]?) → OwnAll w' k g i l F
  | [], i, F, h, _, _ => by rw [OwnAll] at h ⊢; exact h
  | d :: r, i, F, h, hg, ha => by
    rw [OwnAll] at h ⊢
    obtain ⟨cs, F1, F2, rfl, hk, hc, hd, hr⟩ := h
    refine ⟨cs, F1, F2, rfl, hk, fun m u hm => ?_, OwnD.agree hs d hd (fun b hb => ha b (List.mem_append_left _ hb)), OwnAll.agree hs r hr hg (fun b hb => ha b (List.mem_append_right _ hb))⟩
    have := hc m u hm
    exact ⟨by rw [show w'.cell? ⟨g, i * k + m, none⟩ = w.cell? ⟨g, i * k + m, none⟩ from by unfold World.cell?; rw [show w'.heap[(⟨g, i * k + m, none⟩ : Addr).block]? = w.heap[(⟨g, i * k + m, none⟩ : Addr).block]? from hg]]; exact this.1, by rw [show w'.frozen? ⟨g, i * k + m, none⟩ = w.frozen? ⟨g, i * k + m, none⟩ from by unfold World.frozen?; rw [show w'.heap[(⟨g, i * k + m, none⟩ : Addr).block]? = w.heap[(⟨g, i * k + m, none⟩ : Addr).block]? from hg]]; exact this.2⟩
end

/-- Owned from block 'base' on. -/
structure Own (base : Nat) (w : World) (d : Dat) (cs : List Value) (F : List Nat) : Prop where
  own : OwnD w d cs F
  nodup : F.Nodup
  fresh : ∀ b ∈ F, base ≤ b ∧ b < w.heap.size
theorem Own.rd {base : Nat} {w : World} {d : Dat} {cs : List Value} {F : List Nat} (h : Own base w d cs F) : RdD w d cs := h.own.rd
theorem Own.later {base : Nat} {w w' : World} {d : Dat} {cs : List Value} {F : List Nat} (h : Own base w d cs F) (hb : Later w w') : Own base w' d cs F :=
  ⟨OwnD.agree hb.size d h.own (fun b hbF => hb.block b (h.fresh b hbF).2), h.nodup, fun b hbF => ⟨(h.fresh b hbF).1, Nat.lt_of_lt_of_le (h.fresh b hbF).2 hb.size⟩⟩
theorem Own.mono {base base' : Nat} {w : World} {d : Dat} {cs : List Value} {F : List Nat} (h : Own base w d cs F) (hb : base' ≤ base) : Own base' w d cs F :=
  ⟨h.own, h.nodup, fun b hbF => ⟨Nat.le_trans hb (h.fresh b hbF).1, (h.fresh b hbF).2⟩⟩
theorem Own.agree {base : Nat} {w w' : World} {d : Dat} {cs : List Value} {F : List Nat} (h : Own base w d cs F) (hs : w.heap.size ≤ w'.heap.size) (ha : ∀ b, base ≤ b → b < w.heap.size → w'.heap[b]? = w.heap[b]?) : Own base w' d cs F :=
  ⟨OwnD.agree hs d h.own (fun b hbF => ha b (h.fresh b hbF).1 (h.fresh b hbF).2), h.nodup, fun b hbF => ⟨(h.fresh b hbF).1, Nat.lt_of_lt_of_le (h.fresh b hbF).2 hs⟩⟩

end Go.Proofs.Ytlfkjjnhlkaipaa
