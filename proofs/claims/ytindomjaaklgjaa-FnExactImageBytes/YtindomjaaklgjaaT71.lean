/- Marks over trees that came in: numbers are written over numbers, so whatever is no number stays, and the tree keeps its form. -/
import Derived.Test.YtindomjaaklgjaaJ5
namespace Go.Proofs.Ytindomjaaklgjaa
open Go.RowKit

/-- Is this a number? -/
def isNum : Value → Bool
  | .int _ _ => true
  | _ => false
/-- Two values that are the same, or numbers of one kind, or bools. -/
def Like (u v : Value) : Prop := u = v ∨ (∃ k z z', u = .int k z ∧ v = .int k z') ∨ ∃ z z', u = .bool z ∧ v = .bool z'
theorem Like.refl (u : Value) : Like u u := Or.inl rfl
theorem Like.trans {a b c : Value} (h : Like a b) (k : Like b c) : Like a c := by
  rcases h with rfl | ⟨q, z, z', rfl, rfl⟩ | ⟨z, z', rfl, rfl⟩
  · exact k
  · rcases k with rfl | ⟨q', y, y', e, rfl⟩ | ⟨y, y', e, _⟩
    · exact Or.inr (Or.inl ⟨q, z, z', rfl, rfl⟩)
    · cases e
      exact Or.inr (Or.inl ⟨q, z, y', rfl, rfl⟩)
    · cases e
  · rcases k with rfl | ⟨q', y, y', e, _⟩ | ⟨y, y', e, rfl⟩
    · exact Or.inr (Or.inr ⟨z, z', rfl, rfl⟩)
    · cases e
    · cases e
      exact Or.inr (Or.inr ⟨z, y', rfl, rfl⟩)
theorem Like.slice {a : Option Addr} {n c : Nat} {v : Value} (h : Like (.slice a n c) v) : v = .slice a n c := by
  rcases h with h | ⟨k, z, z', e, _⟩ | ⟨z, z', e, _⟩
  · exact h.symm
  · cases e
  · cases e
theorem Like.int {k : IntKind} {z : Int} {v : Value} (h : Like (.int k z) v) : ∃ z', v = .int k z' := by
  rcases h with h | ⟨q, y, y', e, h⟩ | ⟨y, y', e, _⟩
  · exact ⟨z, h.symm⟩
  · cases e
    exact ⟨y', h⟩
  · cases e
theorem Like.bool {z : Bool} {v : Value} (h : Like (.bool z) v) : ∃ z', v = .bool z' := by
  rcases h with h | ⟨q, y, y', e, h⟩ | ⟨y, y', e, h⟩
  · exact ⟨z, h.symm⟩
  · cases e
  · exact ⟨y', h⟩

/-- Numbers alone were written over, in blocks of P. -/
structure Inks (P : Nat → Prop) (w w' : World) : Prop where
  os : w'.os = w.os
  tape : w'.tape = w.tape
  output : w'.output = w.output
  size : w.heap.size ≤ w'.heap.size
  block : ∀ b, b < w.heap.size → ¬ P b → w'.heap[b]? = w.heap[b]?
  frozen : ∀ a : Addr, a.block < w.heap.size → w'.frozen? a = w.frozen? a
  cell : ∀ (a : Addr) u, a.block < w.heap.size → w.cell? a = some u → ∃ v, w'.cell? a = some v ∧ Like u v
theorem Inks.refl (P : Nat → Prop) (w : World) : Inks P w w := ⟨rfl, rfl, rfl, Nat.le_refl _, fun _ _ _ => rfl, fun _ _ => rfl, fun _ u _ h => ⟨u, h, Like.refl u⟩⟩
theorem Inks.trans {P : Nat → Prop} {a b c : World} (h : Inks P a b) (k : Inks P b c) : Inks P a c :=
  ⟨k.os.trans h.os, k.tape.trans h.tape, k.output.trans h.output, Nat.le_trans h.size k.size, fun x hx hn => by rw [k.block x (Nat.lt_of_lt_of_le hx h.size) hn, h.block x hx hn], fun x hx => by rw [k.frozen x (Nat.lt_of_lt_of_le hx h.size), h.frozen x hx], fun x u hx hu => by
    obtain ⟨v, hv, l1⟩ := h.cell x u hx hu
    obtain ⟨v', hv', l2⟩ := k.cell x v (Nat.lt_of_lt_of_le hx h.size) hv
    exact ⟨v', hv', l1.trans l2⟩⟩
theorem Inks.slice {P : Nat → Prop} {w w' : World} (h : Inks P w w') {g o : Nat} (hg : g < w.heap.size) {a : Option Addr} {n c : Nat} (hc : w.cell? ⟨g, o, none⟩ = some (.slice a n c)) : w'.cell? ⟨g, o, none⟩ = some (.slice a n c) := by
  obtain ⟨v, hv, l⟩ := h.cell ⟨g, o, none⟩ _ hg hc
  rw [l.slice] at hv
  exact hv
theorem Inks.int {P : Nat → Prop} {w w' : World} (h : Inks P w w') {g o : Nat} (hg : g < w.heap.size) {k : IntKind} {z : Int} (hc : w.cell? ⟨g, o, none⟩ = some (.int k z)) : ∃ z', w'.cell? ⟨g, o, none⟩ = some (.int k z') := by
  obtain ⟨v, hv, l⟩ := h.cell ⟨g, o, none⟩ _ hg hc
  obtain ⟨z', e⟩ := l.int
  exact ⟨z', by rw [← e]; exact hv⟩
theorem Inks.fz {P : Nat → Prop} {w w' : World} (h : Inks P w w') {g o : Nat} (hg : g < w.heap.size) {b : Bool} (hc : w.frozen? ⟨g, o, none⟩ = b) : w'.frozen? ⟨g, o, none⟩ = b := by
  rw [h.frozen ⟨g, o, none⟩ hg]
  exact hc
/-- A number written over a number. -/
theorem Inks.set {P : Nat → Prop} {w w' : World} (h : Inks P w w') {g o : Nat} (hp : P g) {k : IntKind} {z : Int} (z' : Int) (hc : w'.cell? ⟨g, o, none⟩ = some (.int k z)) : Inks P w (w'.setCell ⟨g, o, none⟩ (.int k z')) := by
  refine h.trans ⟨rfl, rfl, rfl, by rw [World.size_setCell]; exact Nat.le_refl _, fun b _ hn => ?_, fun a _ => by rw [World.frozen?_setCell], fun a u _ hu => ?_⟩
  · rw [Below.heap_setCell _ _ _ _ (fun e => hn (by rw [e]; exact hp))]
  · by_cases e : (⟨g, o, none⟩ : Addr) = a
    · subst e
      rw [hc] at hu
      cases hu
      exact ⟨_, set_same hc, Or.inr (Or.inl ⟨k, z, z', rfl, rfl⟩)⟩
    · exact ⟨u, by rw [set_other e]; exact hu, Like.refl u⟩
/-- A bool written over a bool. -/
theorem Inks.setb {P : Nat → Prop} {w w' : World} (h : Inks P w w') {g o : Nat} (hp : P g) {z : Bool} (z' : Bool) (hc : w'.cell? ⟨g, o, none⟩ = some (.bool z)) : Inks P w (w'.setCell ⟨g, o, none⟩ (.bool z')) := by
  refine h.trans ⟨rfl, rfl, rfl, by rw [World.size_setCell]; exact Nat.le_refl _, fun b _ hn => ?_, fun a _ => by rw [World.frozen?_setCell], fun a u _ hu => ?_⟩
  · rw [Below.heap_setCell _ _ _ _ (fun e => hn (by rw [e]; exact hp))]
  · by_cases e : (⟨g, o, none⟩ : Addr) = a
    · subst e
      rw [hc] at hu
      cases hu
      exact ⟨_, set_same hc, Or.inr (Or.inr ⟨z, z', rfl, rfl⟩)⟩
    · exact ⟨u, by rw [set_other e]; exact hu, Like.refl u⟩
theorem Inks.later {P : Nat → Prop} {w w' : World} (h : Later w w') : Inks P w w' :=
  ⟨h.os, h.tape, h.output, h.size, fun b hb _ => h.block b hb, fun a ha => Below.frozen h ha, fun a u ha hu => ⟨u, by rw [Below.cell h ha]; exact hu, Like.refl u⟩⟩

/-- Lists of values that are alike. -/
def Likes : List Value → List Value → Prop
  | [], cs => cs = []
  | u :: r, cs => ∃ v r', cs = v :: r' ∧ Like u v ∧ Likes r r'
theorem Likes.app : ∀ {a b c : List Value}, Likes (a ++ b) c → ∃ a' b', c = a' ++ b' ∧ Likes a a' ∧ Likes b b'
  | [], b, c, h => ⟨[], c, rfl, by rw [Likes], h⟩
  | u :: r, b, c, h => by
    rw [List.cons_append, Likes] at h
    obtain ⟨v, r', rfl, l, hr⟩ := h
    obtain ⟨a', b', rfl, ha, hb⟩ := Likes.app hr
    exact ⟨v :: a', b', rfl, by rw [Likes]; exact ⟨v, a', rfl, l, ha⟩, hb⟩
theorem Likes.one {u : Value} {c : List Value} (h : Likes [u] c) : ∃ v, c = [v] ∧ Like u v := by
  rw [Likes] at h
  obtain ⟨v, r', rfl, l, hr⟩ := h
  rw [Likes] at hr
  exact ⟨v, by rw [hr], l⟩
theorem Likes.len : ∀ {a b : List Value}, Likes a b → b.length = a.length
  | [], b, h => by rw [Likes] at h; rw [h]
  | u :: r, b, h => by
    rw [Likes] at h
    obtain ⟨v, r', rfl, _, hr⟩ := h
    rw [List.length_cons, List.length_cons, hr.len]
/-- Cells side by side, behind ink. -/
theorem Inks.cells {P : Nat → Prop} {w w' : World} (h : Inks P w w') {g : Nat} (hg : g < w.heap.size) : ∀ (cs : List Value) (o : Nat), (∀ m u, cs[m]? = some u → w.cell? ⟨g, o + m, none⟩ = some u ∧ w.frozen? ⟨g, o + m, none⟩ = false) →
    ∃ cs', Likes cs cs' ∧ ∀ m u, cs'[m]? = some u → w'.cell? ⟨g, o + m, none⟩ = some u ∧ w'.frozen? ⟨g, o + m, none⟩ = false
  | [], o, _ => ⟨[], by rw [Likes], fun m u hm => by simp at hm⟩
  | c :: r, o, hc => by
    obtain ⟨h0, f0⟩ := hc 0 c rfl
    obtain ⟨v, hv, l⟩ := h.cell ⟨g, o + 0, none⟩ c hg h0
    obtain ⟨r', hr, hr'⟩ := h.cells hg r (o + 1) (fun m u hm => by
      have := hc (m + 1) u (by simpa using hm)
      rw [show o + (m + 1) = o + 1 + m by omega] at this
      exact this)
    refine ⟨v :: r', by rw [Likes]; exact ⟨v, r', rfl, l, hr⟩, fun m u hm => ?_⟩
    match m, hm with
    | 0, hm =>
      have e : v = u := by simpa using hm
      rw [← e]
      exact ⟨hv, h.fz hg f0⟩
    | m + 1, hm =>
      have := hr' m u (by simpa using hm)
      rw [show o + (m + 1) = o + 1 + m by omega]
      exact this

mutual
/-- These cells have the datum's form, whatever its numbers; its memory lies in blocks of P. -/
def Sk (P : Nat → Prop) (w : World) : Dat → List Value → Prop
  | .int _, cs => ∃ z, cs = [.int .i64 z]
  | .bool _, cs => ∃ z, cs = [.bool z]
  | .bytes zs, cs => ∃ a cap, cs = [.slice a zs.length cap] ∧ zs.length ≤ 1048576 ∧
      (0 < zs.length → ∃ g, a = some ⟨g, 0, none⟩ ∧ P g ∧ g < w.heap.size ∧ ∀ j, j < zs.length → (∃ z, w.cell? ⟨g, j, none⟩ = some (.int .u8 z)) ∧ w.frozen? ⟨g, j, none⟩ = false)
  | .agg fs, cs => SkAgg P w fs cs
  | .list k l, cs => ∃ a cap, cs = [.slice a l.length cap] ∧ l.length ≤ 1048576 ∧
      (0 < l.length → ∃ g, a = some ⟨g, 0, none⟩ ∧ P g ∧ g < w.heap.size ∧ SkAll P w k g 0 l)
def SkAgg (P : Nat → Prop) (w : World) : List Dat → List Value → Prop
  | [], cs => cs = []
  | d :: r, cs => ∃ c1 c2, cs = c1 ++ c2 ∧ Sk P w d c1 ∧ SkAgg P w r c2
def SkAll (P : Nat → Prop) (w : World) (k : Nat) (g : Nat) : Nat → List Dat → Prop
  | _, [] => True
  | i, d :: r => (∃ cs, cs.length = k ∧ (∀ m u, cs[m]? = some u → w.cell? ⟨g, i * k + m, none⟩ = some u ∧ w.frozen? ⟨g, i * k + m, none⟩ = false) ∧ Sk P w d cs) ∧ SkAll P w k g (i + 1) r
end

mutual
theorem OwnD.sk {P : Nat → Prop} {w : World} : ∀ (d : Dat) {cs : List Value} {F : List Nat}, OwnD w d cs F → (∀ b ∈ F, P b) → Sk P w d cs
  | .int n, cs, F, h, _ => by rw [OwnD] at h; rw [Sk]; exact ⟨n, h.1⟩
  | .bool n, cs, F, h, _ => by rw [OwnD] at h; rw [Sk]; exact ⟨n, h.1⟩
  | .bytes zs, cs, F, h, hp => by
    rw [OwnD] at h
    rw [Sk]
    obtain ⟨a, cap, rfl, hl, _, hc, _⟩ := h
    refine ⟨a, cap, rfl, hl.1, fun h0 => ?_⟩
    obtain ⟨g, rfl, rfl, hg, hh⟩ := hc h0
    exact ⟨g, rfl, hp g (List.mem_singleton.2 rfl), hg, fun j hj => ⟨⟨_, (hh j hj).1⟩, (hh j hj).2⟩⟩
  | .agg fs, cs, F, h, hp => by rw [OwnD] at h; rw [Sk]; exact OwnAgg.sk fs h hp
  | .list k l, cs, F, h, hp => by
    rw [OwnD] at h
    rw [Sk]
    obtain ⟨a, cap, rfl, hl, hc, _⟩ := h
    refine ⟨a, cap, rfl, hl.1, fun h0 => ?_⟩
    obtain ⟨g, F', rfl, rfl, hg, hh⟩ := hc h0
    exact ⟨g, rfl, hp g (List.mem_cons_self ..), hg, OwnAll.sk l hh (fun b hb => hp b (List.mem_cons_of_mem _ hb))⟩
theorem OwnAgg.sk {P : Nat → Prop} {w : World} : ∀ (fs : List Dat) {cs : List Value} {F : List Nat}, OwnAgg w fs cs F → (∀ b ∈ F, P b) → SkAgg P w fs cs
  | [], cs, F, h, _ => by rw [OwnAgg] at h; rw [SkAgg]; exact h.1
  | d :: r, cs, F, h, hp => by
    rw [OwnAgg] at h
    rw [SkAgg]
    obtain ⟨c1, c2, F1, F2, e, rfl, h1, h2⟩ := h
    exact ⟨c1, c2, e, OwnD.sk d h1 (fun b hb => hp b (List.mem_append_left _ hb)), OwnAgg.sk r h2 (fun b hb => hp b (List.mem_append_right _ hb))⟩
theorem OwnAll.sk {P : Nat → Prop} {w : World} {k g : Nat} : ∀ (l : List Dat) {i : Nat} {F : List Nat}, OwnAll w k g i l F → (∀ b ∈ F, P b) → SkAll P w k g i l
  | [], i, F, _, _ => by rw [SkAll]; trivial
  | d :: r, i, F, h, hp => by
    rw [OwnAll] at h
    rw [SkAll]
    obtain ⟨cs, F1, F2, rfl, hk, hc, hd, hr⟩ := h
    exact ⟨⟨cs, hk, hc, OwnD.sk d hd (fun b hb => hp b (List.mem_append_left _ hb))⟩, OwnAll.sk r hr (fun b hb => hp b (List.mem_append_right _ hb))⟩
end
theorem Own.sk {base : Nat} {w : World} {d : Dat} {cs : List Value} {F : List Nat} (h : Own base w d cs F) : Sk (fun b => base ≤ b ∧ b < w.heap.size) w d cs := OwnD.sk d h.own h.fresh

mutual
/-- Ink keeps the form. -/
theorem Sk.inks {P : Nat → Prop} {w w' : World} (k : Inks P w w') : ∀ (d : Dat) {cs cs' : List Value}, Sk P w d cs → Likes cs cs' → Sk P w' d cs'
  | .int n, cs, cs', h, hl => by
    rw [Sk] at h ⊢
    obtain ⟨z, rfl⟩ := h
    obtain ⟨v, rfl, l⟩ := hl.one
    obtain ⟨z', rfl⟩ := l.int
    exact ⟨z', rfl⟩
  | .bool n, cs, cs', h, hl => by
    rw [Sk] at h ⊢
    obtain ⟨z, rfl⟩ := h
    obtain ⟨v, rfl, l⟩ := hl.one
    obtain ⟨z', rfl⟩ := l.bool
    exact ⟨z', rfl⟩
  | .bytes zs, cs, cs', h, hl => by
    rw [Sk] at h ⊢
    obtain ⟨a, cap, rfl, hn, hc⟩ := h
    obtain ⟨v, rfl, l⟩ := hl.one
    obtain rfl := l.slice
    refine ⟨a, cap, rfl, hn, fun h0 => ?_⟩
    obtain ⟨g, rfl, hp, hg, hh⟩ := hc h0
    refine ⟨g, rfl, hp, Nat.lt_of_lt_of_le hg k.size, fun j hj => ?_⟩
    obtain ⟨⟨z, hz⟩, hf⟩ := hh j hj
    exact ⟨k.int hg hz, k.fz hg hf⟩
  | .agg fs, cs, cs', h, hl => by rw [Sk] at h ⊢; exact SkAgg.inks k fs h hl
  | .list q l, cs, cs', h, hl => by
    rw [Sk] at h ⊢
    obtain ⟨a, cap, rfl, hn, hc⟩ := h
    obtain ⟨v, rfl, e⟩ := hl.one
    obtain rfl := e.slice
    refine ⟨a, cap, rfl, hn, fun h0 => ?_⟩
    obtain ⟨g, rfl, hp, hg, hh⟩ := hc h0
    exact ⟨g, rfl, hp, Nat.lt_of_lt_of_le hg k.size, SkAll.inks k hg l hh⟩
theorem SkAgg.inks {P : Nat → Prop} {w w' : World} (k : Inks P w w') : ∀ (fs : List Dat) {cs cs' : List Value}, SkAgg P w fs cs → Likes cs cs' → SkAgg P w' fs cs'
  | [], cs, cs', h, hl => by
    rw [SkAgg] at h ⊢
    subst h
    rw [Likes] at hl
    exact hl
  | d :: r, cs, cs', h, hl => by
    rw [SkAgg] at h ⊢
    obtain ⟨c1, c2, rfl, h1, h2⟩ := h
    obtain ⟨a', b', rfl, ha, hb⟩ := hl.app
    exact ⟨a', b', rfl, Sk.inks k d h1 ha, SkAgg.inks k r h2 hb⟩
theorem SkAll.inks {P : Nat → Prop} {w w' : World} (k : Inks P w w') {q g : Nat} (hg : g < w.heap.size) : ∀ (l : List Dat) {i : Nat}, SkAll P w q g i l → SkAll P w' q g i l
  | [], i, _ => by rw [SkAll]; trivial
  | d :: r, i, h => by
    rw [SkAll] at h ⊢
    obtain ⟨⟨cs, hk, hc, hd⟩, hr⟩ := h
    obtain ⟨cs', hl, hc'⟩ := k.cells hg cs (i * q) hc
    exact ⟨⟨cs', hl.len.trans hk, hc', Sk.inks k d hd hl⟩, SkAll.inks k hg r hr⟩
end
/-- A slice of the form, behind ink. -/
theorem Sk.slice_inks {P : Nat → Prop} {w w' : World} {d : Dat} {a : Option Addr} {n c : Nat} (h : Sk P w d [.slice a n c]) (k : Inks P w w') : Sk P w' d [.slice a n c] :=
  Sk.inks k d h (by rw [Likes]; exact ⟨_, [], rfl, Like.refl _, by rw [Likes]⟩)
theorem SkAll.at {P : Nat → Prop} {w : World} {k g : Nat} : ∀ (l : List Dat) {i : Nat}, SkAll P w k g i l → ∀ j (hj : j < l.length), ∃ cs, cs.length = k ∧ (∀ m u, cs[m]? = some u → w.cell? ⟨g, (i + j) * k + m, none⟩ = some u ∧ w.frozen? ⟨g, (i + j) * k + m, none⟩ = false) ∧ Sk P w l[j] cs
  | d :: r, i, h, 0, _ => by rw [SkAll] at h; exact h.1
  | d :: r, i, h, j + 1, hj => by
    rw [SkAll] at h
    have := SkAll.at r h.2 j (by simpa using hj)
    rw [show i + 1 + j = i + (j + 1) by omega] at this
    exact this
/-- One element of a list's form. -/
theorem Sk.elem {P : Nat → Prop} {w : World} {k : Nat} {l : List Dat} {v : Value} (h : Sk P w (.list k l) [v]) (j : Nat) (hj : j < l.length) : ∃ g cap cs, v = .slice (some ⟨g, 0, none⟩) l.length cap ∧ P g ∧ g < w.heap.size ∧ cs.length = k ∧ (∀ m u, cs[m]? = some u → w.cell? ⟨g, j * k + m, none⟩ = some u ∧ w.frozen? ⟨g, j * k + m, none⟩ = false) ∧ Sk P w l[j] cs := by
  rw [Sk] at h
  obtain ⟨a, cap, e, _, hc⟩ := h
  cases e
  obtain ⟨g, rfl, hp, hg, hh⟩ := hc (by omega)
  obtain ⟨cs, hk, hcc, hd⟩ := SkAll.at l hh j hj
  rw [Nat.zero_add] at hcc
  exact ⟨g, cap, cs, rfl, hp, hg, hk, hcc, hd⟩
theorem Sk.lslice {P : Nat → Prop} {w : World} {k : Nat} {l : List Dat} {v : Value} (h : Sk P w (.list k l) [v]) : ∃ a cap, v = .slice a l.length cap ∧ l.length ≤ 1048576 := by
  rw [Sk] at h
  obtain ⟨a, cap, e, hl, _⟩ := h
  cases e
  exact ⟨a, cap, rfl, hl⟩
theorem Sk.bslice {P : Nat → Prop} {w : World} {zs : List Int} {v : Value} (h : Sk P w (.bytes zs) [v]) : ∃ a cap, v = .slice a zs.length cap ∧ zs.length ≤ 1048576 := by
  rw [Sk] at h
  obtain ⟨a, cap, e, hl, _⟩ := h
  cases e
  exact ⟨a, cap, rfl, hl⟩

/-- What a function of marks answers. -/
def MkQ (P : Nat → Prop) (w : World) (k : Int) (n : Nat) (e : Ending) (w' : World) : Prop := ∃ k', e = .returned (.int .i64 k') ∧ k ≤ k' ∧ k' ≤ k + n ∧ Inks P w w'

set_option maxHeartbeats 400000 in
theorem markb_sk {P : Nat → Prop} {zs : List Int} {v : Value} {w : World} (h : Sk P w (.bytes zs) [v]) (k : Int) (h0 : 0 ≤ k) (h1 : k + zs.length ≤ 4611686018427387904) : Calls Try.prog 15 #[v, .int .i64 k] w (MkQ P w k zs.length) := by
  obtain ⟨a, cap, rfl, hl⟩ := h.bslice
  go_enter Try.func15, Try.ntmps15
  go_wp2_with fail
  go_loopw [1, 5] (fun kk i wr => ∃ j : Nat, kk = .int .i64 (k + j) ∧ i = .int .i64 (j : Int) ∧ j ≤ zs.length ∧ Inks P w wr) (fun _ i _ => zs.length - (intOf i).toNat)
  case atStart => exact ⟨0, by simp, rfl, Nat.zero_le _, Inks.refl _ _⟩
  case round =>
    obtain ⟨j, rfl, rfl, hj, hw⟩ := hrel
    by_cases hlt : j < zs.length
    · have h' := h.slice_inks hw
      rw [Sk] at h'
      obtain ⟨_, _, e, _, hh⟩ := h'
      cases e
      obtain ⟨g, rfl, hp, hg, hc⟩ := hh (by omega)
      obtain ⟨⟨z, hz⟩, hf⟩ := hc j hlt
      have hi : (j : Int) < (zs.length : Int) := by omega
      have hst := hw.set hp (IntKind.u8.wrap (k + j)) hz
      have hb1 : 0 ≤ k + j := by omega
      have hb2 : k + j ≤ 4611686018427387904 := by omega
      clear hw hc h hh
      go_wp2_with fail
      go_roundw
      case rel => exact ⟨j + 1, by go_num, by go_num, by omega, hst⟩
      case measure => simp [intOf]; omega
    · have hlt' : decide ((j : Int) < (zs.length : Int)) = false := by simp; omega
      have hjn : j = zs.length := by omega
      subst hjn
      clear h
      go_wp2_with fail
      go_ret
      exact ⟨_, rfl, by omega, by omega, hw⟩

end Go.Proofs.Ytindomjaaklgjaa
