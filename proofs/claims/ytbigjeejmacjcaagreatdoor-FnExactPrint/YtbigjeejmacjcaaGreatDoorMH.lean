/- Several of my texts in one: T71, T72, T73, T75. -/
import Derived.Test.YtbigjeejmacjcaaGreatDoorT5
import Derived.Test.YtbigjeejmacjcaaGreatDoorT6
import Derived.Deep.RegionHeld3
/- Marks over trees that came in: numbers are written over numbers, so whatever is no number stays, and the tree keeps its form. -/
namespace Go.Proofs.YtbigjeejmacjcaaGreatDoor
open Go.RowKit

/-- Is this a number? -/
def isNum : Value → Bool
  | .int _ _ => true
  | _ => false
/-- Two values that are the same, or numbers of one kind. -/
def Like (u v : Value) : Prop := u = v ∨ ∃ k z z', u = .int k z ∧ v = .int k z'
theorem Like.refl (u : Value) : Like u u := Or.inl rfl
theorem Like.trans {a b c : Value} (h : Like a b) (k : Like b c) : Like a c := by
  rcases h with rfl | ⟨q, z, z', rfl, rfl⟩
  · exact k
  · rcases k with rfl | ⟨q', y, y', e, rfl⟩
    · exact Or.inr ⟨q, z, z', rfl, rfl⟩
    · cases e
      exact Or.inr ⟨q, z, y', rfl, rfl⟩
theorem Like.slice {a : Option Addr} {n c : Nat} {v : Value} (h : Like (.slice a n c) v) : v = .slice a n c := by
  rcases h with h | ⟨k, z, z', e, _⟩
  · exact h.symm
  · cases e
theorem Like.int {k : IntKind} {z : Int} {v : Value} (h : Like (.int k z) v) : ∃ z', v = .int k z' := by
  rcases h with h | ⟨q, y, y', e, h⟩
  · exact ⟨z, h.symm⟩
  · cases e
    exact ⟨y', h⟩

/-- Numbers alone were written over, in blocks of P. -/
structure Inks (P : Nat → Prop) (w w' : World) : Prop where
  os : w'.os = w.os
  tape : w'.tape = w.tape
  output : w'.output = w.output
  size : w.heap.size ≤ w'.heap.size
  block : ∀ b, b < w.heap.size → ¬ P b → w'.heap[b]? = w.heap[b]?
  frozen : ∀ a : Addr, a.block < w.heap.size → w'.frozen? a = w.frozen? a
  cell : ∀ (a : Addr) u, a.block < w.heap.size → w.cell? a = some u → ∃ v, w'.cell? a = some v ∧ Like u v
theorem Inks.refl (P : Nat → Prop) (w : World) : Inks P w w := ⟨rfl, rfl, rfl, Nat.le_refl _, fun _ _ _ => rfl, fun _ _ => rfl, fun _ u _ h => ⟨u, h, Like.refl u⟩⟩
theorem Inks.trans {P : Nat → Prop} {a b c : World} (h : Inks P a b) (k : Inks P b c) : Inks P a c :=
  ⟨k.os.trans h.os, k.tape.trans h.tape, k.output.trans h.output, Nat.le_trans h.size k.size, fun x hx hn => by rw [k.block x (Nat.lt_of_lt_of_le hx h.size) hn, h.block x hx hn], fun x hx => by rw [k.frozen x (Nat.lt_of_lt_of_le hx h.size), h.frozen x hx], fun x u hx hu => by
    obtain ⟨v, hv, l1⟩ := h.cell x u hx hu
    obtain ⟨v', hv', l2⟩ := k.cell x v (Nat.lt_of_lt_of_le hx h.size) hv
    exact ⟨v', hv', l1.trans l2⟩⟩
theorem Inks.slice {P : Nat → Prop} {w w' : World} (h : Inks P w w') {g o : Nat} (hg : g < w.heap.size) {a : Option Addr} {n c : Nat} (hc : w.cell? ⟨g, o, none⟩ = some (.slice a n c)) : w'.cell? ⟨g, o, none⟩ = some (.slice a n c) := by
  obtain ⟨v, hv, l⟩ := h.cell ⟨g, o, none⟩ _ hg hc
  rw [l.slice] at hv
  exact hv
theorem Inks.int {P : Nat → Prop} {w w' : World} (h : Inks P w w') {g o : Nat} (hg : g < w.heap.size) {k : IntKind} {z : Int} (hc : w.cell? ⟨g, o, none⟩ = some (.int k z)) : ∃ z', w'.cell? ⟨g, o, none⟩ = some (.int k z') := by
  obtain ⟨v, hv, l⟩ := h.cell ⟨g, o, none⟩ _ hg hc
  obtain ⟨z', e⟩ := l.int
  exact ⟨z', by rw [← e]; exact hv⟩
theorem Inks.fz {P : Nat → Prop} {w w' : World} (h : Inks P w w') {g o : Nat} (hg : g < w.heap.size) {b : Bool} (hc : w.frozen? ⟨g, o, none⟩ = b) : w'.frozen? ⟨g, o, none⟩ = b := by
  rw [h.frozen ⟨g, o, none⟩ hg]
  exact hc
/-- A number written over a number. -/
theorem Inks.set {P : Nat → Prop} {w w' : World} (h : Inks P w w') {g o : Nat} (hp : P g) {k : IntKind} {z : Int} (z' : Int) (hc : w'.cell? ⟨g, o, none⟩ = some (.int k z)) : Inks P w (w'.setCell ⟨g, o, none⟩ (.int k z')) := by
  refine h.trans ⟨rfl, rfl, rfl, by rw [World.size_setCell]; exact Nat.le_refl _, fun b _ hn => ?_, fun a _ => by rw [World.frozen?_setCell], fun a u _ hu => ?_⟩
  · rw [Below.heap_setCell _ _ _ _ (fun e => hn (by rw [e]; exact hp))]
  · by_cases e : (⟨g, o, none⟩ : Addr) = a
    · subst e
      rw [hc] at hu
      cases hu
      exact ⟨_, set_same hc, Or.inr ⟨k, z, z', rfl, rfl⟩⟩
    · exact ⟨u, by rw [set_other e]; exact hu, Like.refl u⟩
theorem Inks.later {P : Nat → Prop} {w w' : World} (h : Later w w') : Inks P w w' :=
  ⟨h.os, h.tape, h.output, h.size, fun b hb _ => h.block b hb, fun a ha => Below.frozen h ha, fun a u ha hu => ⟨u, by rw [Below.cell h ha]; exact hu, Like.refl u⟩⟩

/-- Lists of values that are alike. -/
def Likes : List Value → List Value → Prop
  | [], cs => cs = []
  | u :: r, cs => ∃ v r', cs = v :: r' ∧ Like u v ∧ Likes r r'
theorem Likes.app : ∀ {a b c : List Value}, Likes (a ++ b) c → ∃ a' b', c = a' ++ b' ∧ Likes a a' ∧ Likes b b'
  | [], b, c, h => ⟨[], c, rfl, by rw [Likes], h⟩
  | u :: r, b, c, h => by
    rw [List.cons_append, Likes] at h
    obtain ⟨v, r', rfl, l, hr⟩ := h
    obtain ⟨a', b', rfl, ha, hb⟩ := Likes.app hr
    exact ⟨v :: a', b', rfl, by rw [Likes]; exact ⟨v, a', rfl, l, ha⟩, hb⟩
theorem Likes.one {u : Value} {c : List Value} (h : Likes [u] c) : ∃ v, c = [v] ∧ Like u v := by
  rw [Likes] at h
  obtain ⟨v, r', rfl, l, hr⟩ := h
  rw [Likes] at hr
  exact ⟨v, by rw [hr], l⟩
theorem Likes.len : ∀ {a b : List Value}, Likes a b → b.length = a.length
  | [], b, h => by rw [Likes] at h; rw [h]
  | u :: r, b, h => by
    rw [Likes] at h
    obtain ⟨v, r', rfl, _, hr⟩ := h
    rw [List.length_cons, List.length_cons, hr.len]
/-- Cells side by side, behind ink. -/
theorem Inks.cells {P : Nat → Prop} {w w' : World} (h : Inks P w w') {g : Nat} (hg : g < w.heap.size) : ∀ (cs : List Value) (o : Nat), (∀ m u, cs[m]? = some u → w.cell? ⟨g, o + m, none⟩ = some u ∧ w.frozen? ⟨g, o + m, none⟩ = false) →
    ∃ cs', Likes cs cs' ∧ ∀ m u, cs'[m]? = some u → w'.cell? ⟨g, o + m, none⟩ = some u ∧ w'.frozen? ⟨g, o + m, none⟩ = false
  | [], o, _ => ⟨[], by rw [Likes], fun m u hm => by simp at hm⟩
  | c :: r, o, hc => by
    obtain ⟨h0, f0⟩ := hc 0 c rfl
    obtain ⟨v, hv, l⟩ := h.cell ⟨g, o + 0, none⟩ c hg h0
    obtain ⟨r', hr, hr'⟩ := h.cells hg r (o + 1) (fun m u hm => by
      have := hc (m + 1) u (by simpa using hm)
      rw [show o + (m + 1) = o + 1 + m by omega] at this
      exact this)
    refine ⟨v :: r', by rw [Likes]; exact ⟨v, r', rfl, l, hr⟩, fun m u hm => ?_⟩
    match m, hm with
    | 0, hm =>
      have e : v = u := by simpa using hm
      rw [← e]
      exact ⟨hv, h.fz hg f0⟩
    | m + 1, hm =>
      have := hr' m u (by simpa using hm)
      rw [show o + (m + 1) = o + 1 + m by omega]
      exact this

mutual
/-- These cells have the datum's form, whatever its numbers; its memory lies in blocks of P. -/
def Sk (P : Nat → Prop) (w : World) : Dat → List Value → Prop
  | .int _, cs => ∃ z, cs = [.int .i64 z]
  | .bytes zs, cs => ∃ a cap, cs = [.slice a zs.length cap] ∧ zs.length ≤ 1048576 ∧
      (0 < zs.length → ∃ g, a = some ⟨g, 0, none⟩ ∧ P g ∧ g < w.heap.size ∧ ∀ j, j < zs.length → (∃ z, w.cell? ⟨g, j, none⟩ = some (.int .u8 z)) ∧ w.frozen? ⟨g, j, none⟩ = false)
  | .agg fs, cs => SkAgg P w fs cs
  | .list k l, cs => ∃ a cap, cs = [.slice a l.length cap] ∧ l.length ≤ 1048576 ∧
      (0 < l.length → ∃ g, a = some ⟨g, 0, none⟩ ∧ P g ∧ g < w.heap.size ∧ SkAll P w k g 0 l)
def SkAgg (P : Nat → Prop) (w : World) : List Dat → List Value → Prop
  | [], cs => cs = []
  | d :: r, cs => ∃ c1 c2, cs = c1 ++ c2 ∧ Sk P w d c1 ∧ SkAgg P w r c2
def SkAll (P : Nat → Prop) (w : World) (k : Nat) (g : Nat) : Nat → List Dat → Prop
  | _, [] => True
  | i, d :: r => (∃ cs, cs.length = k ∧ (∀ m u, cs[m]? = some u → w.cell? ⟨g, i * k + m, none⟩ = some u ∧ w.frozen? ⟨g, i * k + m, none⟩ = false) ∧ Sk P w d cs) ∧ SkAll P w k g (i + 1) r
end

mutual
theorem OwnD.sk {P : Nat → Prop} {w : World} : ∀ (d : Dat) {cs : List Value} {F : List Nat}, OwnD w d cs F → (∀ b ∈ F, P b) → Sk P w d cs
  | .int n, cs, F, h, _ => by rw [OwnD] at h; rw [Sk]; exact ⟨n, h.1⟩
  | .bytes zs, cs, F, h, hp => by
    rw [OwnD] at h
    rw [Sk]
    obtain ⟨a, cap, rfl, hl, _, hc, _⟩ := h
    refine ⟨a, cap, rfl, hl.1, fun h0 => ?_⟩
    obtain ⟨g, rfl, rfl, hg, hh⟩ := hc h0
    exact ⟨g, rfl, hp g (List.mem_singleton.2 rfl), hg, fun j hj => ⟨⟨_, (hh j hj).1⟩, (hh j hj).2⟩⟩
  | .agg fs, cs, F, h, hp => by rw [OwnD] at h; rw [Sk]; exact OwnAgg.sk fs h hp
  | .list k l, cs, F, h, hp => by
    rw [OwnD] at h
    rw [Sk]
    obtain ⟨a, cap, rfl, hl, hc, _⟩ := h
    refine ⟨a, cap, rfl, hl.1, fun h0 => ?_⟩
    obtain ⟨g, F', rfl, rfl, hg, hh⟩ := hc h0
    exact ⟨g, rfl, hp g (List.mem_cons_self ..), hg, OwnAll.sk l hh (fun b hb => hp b (List.mem_cons_of_mem _ hb))⟩
theorem OwnAgg.sk {P : Nat → Prop} {w : World} : ∀ (fs : List Dat) {cs : List Value} {F : List Nat}, OwnAgg w fs cs F → (∀ b ∈ F, P b) → SkAgg P w fs cs
  | [], cs, F, h, _ => by rw [OwnAgg] at h; rw [SkAgg]; exact h.1
  | d :: r, cs, F, h, hp => by
    rw [OwnAgg] at h
    rw [SkAgg]
    obtain ⟨c1, c2, F1, F2, e, rfl, h1, h2⟩ := h
    exact ⟨c1, c2, e, OwnD.sk d h1 (fun b hb => hp b (List.mem_append_left _ hb)), OwnAgg.sk r h2 (fun b hb => hp b (List.mem_append_right _ hb))⟩
theorem OwnAll.sk {P : Nat → Prop} {w : World} {k g : Nat} : ∀ (l : List Dat) {i : Nat} {F : List Nat}, OwnAll w k g i l F → (∀ b ∈ F, P b) → SkAll P w k g i l
  | [], i, F, _, _ => by rw [SkAll]; trivial
  | d :: r, i, F, h, hp => by
    rw [OwnAll] at h
    rw [SkAll]
    obtain ⟨cs, F1, F2, rfl, hk, hc, hd, hr⟩ := h
    exact ⟨⟨cs, hk, hc, OwnD.sk d hd (fun b hb => hp b (List.mem_append_left _ hb))⟩, OwnAll.sk r hr (fun b hb => hp b (List.mem_append_right _ hb))⟩
end
theorem Own.sk {base : Nat} {w : World} {d : Dat} {cs : List Value} {F : List Nat} (h : Own base w d cs F) : Sk (fun b => base ≤ b ∧ b < w.heap.size) w d cs := OwnD.sk d h.own h.fresh

mutual
/-- Ink keeps the form. -/
theorem Sk.inks {P : Nat → Prop} {w w' : World} (k : Inks P w w') : ∀ (d : Dat) {cs cs' : List Value}, Sk P w d cs → Likes cs cs' → Sk P w' d cs'
  | .int n, cs, cs', h, hl => by
    rw [Sk] at h ⊢
    obtain ⟨z, rfl⟩ := h
    obtain ⟨v, rfl, l⟩ := hl.one
    obtain ⟨z', rfl⟩ := l.int
    exact ⟨z', rfl⟩
  | .bytes zs, cs, cs', h, hl => by
    rw [Sk] at h ⊢
    obtain ⟨a, cap, rfl, hn, hc⟩ := h
    obtain ⟨v, rfl, l⟩ := hl.one
    obtain rfl := l.slice
    refine ⟨a, cap, rfl, hn, fun h0 => ?_⟩
    obtain ⟨g, rfl, hp, hg, hh⟩ := hc h0
    refine ⟨g, rfl, hp, Nat.lt_of_lt_of_le hg k.size, fun j hj => ?_⟩
    obtain ⟨⟨z, hz⟩, hf⟩ := hh j hj
    exact ⟨k.int hg hz, k.fz hg hf⟩
  | .agg fs, cs, cs', h, hl => by rw [Sk] at h ⊢; exact SkAgg.inks k fs h hl
  | .list q l, cs, cs', h, hl => by
    rw [Sk] at h ⊢
    obtain ⟨a, cap, rfl, hn, hc⟩ := h
    obtain ⟨v, rfl, e⟩ := hl.one
    obtain rfl := e.slice
    refine ⟨a, cap, rfl, hn, fun h0 => ?_⟩
    obtain ⟨g, rfl, hp, hg, hh⟩ := hc h0
    exact ⟨g, rfl, hp, Nat.lt_of_lt_of_le hg k.size, SkAll.inks k hg l hh⟩
theorem SkAgg.inks {P : Nat → Prop} {w w' : World} (k : Inks P w w') : ∀ (fs : List Dat) {cs cs' : List Value}, SkAgg P w fs cs → Likes cs cs' → SkAgg P w' fs cs'
  | [], cs, cs', h, hl => by
    rw [SkAgg] at h ⊢
    subst h
    rw [Likes] at hl
    exact hl
  | d :: r, cs, cs', h, hl => by
    rw [SkAgg] at h ⊢
    obtain ⟨c1, c2, rfl, h1, h2⟩ := h
    obtain ⟨a', b', rfl, ha, hb⟩ := hl.app
    exact ⟨a', b', rfl, Sk.inks k d h1 ha, SkAgg.inks k r h2 hb⟩
theorem SkAll.inks {P : Nat → Prop} {w w' : World} (k : Inks P w w') {q g : Nat} (hg : g < w.heap.size) : ∀ (l : List Dat) {i : Nat}, SkAll P w q g i l → SkAll P w' q g i l
  | [], i, _ => by rw [SkAll]; trivial
  | d :: r, i, h => by
    rw [SkAll] at h ⊢
    obtain ⟨⟨cs, hk, hc, hd⟩, hr⟩ := h
    obtain ⟨cs', hl, hc'⟩ := k.cells hg cs (i * q) hc
    exact ⟨⟨cs', hl.len.trans hk, hc', Sk.inks k d hd hl⟩, SkAll.inks k hg r hr⟩
end
/-- A slice of the form, behind ink. -/
theorem Sk.slice_inks {P : Nat → Prop} {w w' : World} {d : Dat} {a : Option Addr} {n c : Nat} (h : Sk P w d [.slice a n c]) (k : Inks P w w') : Sk P w' d [.slice a n c] :=
  Sk.inks k d h (by rw [Likes]; exact ⟨_, [], rfl, Like.refl _, by rw [Likes]⟩)
theorem SkAll.at {P : Nat → Prop} {w : World} {k g : Nat} : ∀ (l : List Dat) {i : Nat}, SkAll P w k g i l → ∀ j (hj : j < l.length), ∃ cs, cs.length = k ∧ (∀ m u, cs[m]? = some u → w.cell? ⟨g, (i + j) * k + m, none⟩ = some u ∧ w.frozen? ⟨g, (i + j) * k + m, none⟩ = false) ∧ Sk P w l[j] cs
  | d :: r, i, h, 0, _ => by rw [SkAll] at h; exact h.1
  | d :: r, i, h, j + 1, hj => by
    rw [SkAll] at h
    have := SkAll.at r h.2 j (by simpa using hj)
    rw [show i + 1 + j = i + (j + 1) by omega] at this
    exact this
/-- One element of a list's form. -/
theorem Sk.elem {P : Nat → Prop} {w : World} {k : Nat} {l : List Dat} {v : Value} (h : Sk P w (.list k l) [v]) (j : Nat) (hj : j < l.length) : ∃ g cap cs, v = .slice (some ⟨g, 0, none⟩) l.length cap ∧ P g ∧ g < w.heap.size ∧ cs.length = k ∧ (∀ m u, cs[m]? = some u → w.cell? ⟨g, j * k + m, none⟩ = some u ∧ w.frozen? ⟨g, j * k + m, none⟩ = false) ∧ Sk P w l[j] cs := by
  rw [Sk] at h
  obtain ⟨a, cap, e, _, hc⟩ := h
  cases e
  obtain ⟨g, rfl, hp, hg, hh⟩ := hc (by omega)
  obtain ⟨cs, hk, hcc, hd⟩ := SkAll.at l hh j hj
  rw [Nat.zero_add] at hcc
  exact ⟨g, cap, cs, rfl, hp, hg, hk, hcc, hd⟩
theorem Sk.lslice {P : Nat → Prop} {w : World} {k : Nat} {l : List Dat} {v : Value} (h : Sk P w (.list k l) [v]) : ∃ a cap, v = .slice a l.length cap ∧ l.length ≤ 1048576 := by
  rw [Sk] at h
  obtain ⟨a, cap, e, hl, _⟩ := h
  cases e
  exact ⟨a, cap, rfl, hl⟩
theorem Sk.bslice {P : Nat → Prop} {w : World} {zs : List Int} {v : Value} (h : Sk P w (.bytes zs) [v]) : ∃ a cap, v = .slice a zs.length cap ∧ zs.length ≤ 1048576 := by
  rw [Sk] at h
  obtain ⟨a, cap, e, hl, _⟩ := h
  cases e
  exact ⟨a, cap, rfl, hl⟩

/-- What a function of marks answers. -/
def MkQ (P : Nat → Prop) (w : World) (k : Int) (n : Nat) (e : Ending) (w' : World) : Prop := ∃ k', e = .returned (.int .i64 k') ∧ k ≤ k' ∧ k' ≤ k + n ∧ Inks P w w'

set_option maxHeartbeats 400000 in
theorem markb_sk {P : Nat → Prop} {zs : List Int} {v : Value} {w : World} (h : Sk P w (.bytes zs) [v]) (k : Int) (h0 : 0 ≤ k) (h1 : k + zs.length ≤ 4611686018427387904) : Calls Tryz.prog 11 #[v, .int .i64 k] w (MkQ P w k zs.length) := by
  obtain ⟨a, cap, rfl, hl⟩ := h.bslice
  go_enter Tryz.func11, Tryz.ntmps11
  go_wp2_with fail
  go_loopw [1, 5] (fun kk i wr => ∃ j : Nat, kk = .int .i64 (k + j) ∧ i = .int .i64 (j : Int) ∧ j ≤ zs.length ∧ Inks P w wr) (fun _ i _ => zs.length - (intOf i).toNat)
  case atStart => exact ⟨0, by simp, rfl, Nat.zero_le _, Inks.refl _ _⟩
  case round =>
    obtain ⟨j, rfl, rfl, hj, hw⟩ := hrel
    by_cases hlt : j < zs.length
    · have h' := h.slice_inks hw
      rw [Sk] at h'
      obtain ⟨_, _, e, _, hh⟩ := h'
      cases e
      obtain ⟨g, rfl, hp, hg, hc⟩ := hh (by omega)
      obtain ⟨⟨z, hz⟩, hf⟩ := hc j hlt
      have hi : (j : Int) < (zs.length : Int) := by omega
      have hst := hw.set hp (IntKind.u8.wrap (k + j)) hz
      have hb1 : 0 ≤ k + j := by omega
      have hb2 : k + j ≤ 4611686018427387904 := by omega
      clear hw hc h hh
      go_wp2_with fail
      go_roundw
      case rel => exact ⟨j + 1, by go_num, by go_num, by omega, hst⟩
      case measure => simp [intOf]; omega
    · have hlt' : decide ((j : Int) < (zs.length : Int)) = false := by simp; omega
      have hjn : j = zs.length := by omega
      subst hjn
      clear h
      go_wp2_with fail
      go_ret
      exact ⟨_, rfl, by omega, by omega, hw⟩

end Go.Proofs.YtbigjeejmacjcaaGreatDoor
/- Marks over trees that came in: by types. -/
namespace Go.Proofs.YtbigjeejmacjcaaGreatDoor
open Go.RowKit

theorem Pa.szEq (x : Pa) : x.sz = x.name.length := by obtain ⟨name, tk, tn⟩ := x; rfl
theorem Pa.skView {P : Nat → Prop} {w : World} {x : Pa} {cs : List Value} (h : Sk P w x.dat cs) : ∃ a0 p0 y1 y2, cs = [.slice a0 x.name.length p0, .int .i64 y1, .int .i64 y2] ∧ Sk P w (.bytes x.name) [.slice a0 x.name.length p0] := by
  obtain ⟨name, tk, tn⟩ := x
  rw [Pa.dat, Sk] at h
  rw [SkAgg] at h
  obtain ⟨c0, d0, rfl, h0, h⟩ := h
  have e0 := h0
  rw [Sk] at e0
  obtain ⟨a0, p0, rfl, _⟩ := e0
  rw [SkAgg] at h
  obtain ⟨c1, d1, rfl, h1, h⟩ := h
  rw [Sk] at h1
  obtain ⟨y1, rfl⟩ := h1
  rw [SkAgg] at h
  obtain ⟨c2, d2, rfl, h2, h⟩ := h
  rw [Sk] at h2
  obtain ⟨y2, rfl⟩ := h2
  rw [SkAgg] at h
  subst h
  exact ⟨_, _, _, _, rfl, h0⟩
theorem Pa.skElem {P : Nat → Prop} {w : World} {l : List Pa} {v : Value} (h : Sk P w (.list 3 (Pa.dats l)) [v]) (j : Nat) (hj : j < l.length) : ∃ g cap a0 p0 y1 y2, v = .slice (some ⟨g, 0, none⟩) l.length cap ∧ P g ∧ g < w.heap.size ∧ w.cell? ⟨g, j * 3, none⟩ = some (.slice a0 l[j].name.length p0) ∧ w.cell? ⟨g, j * 3 + 1, none⟩ = some (.int .i64 y1) ∧ w.cell? ⟨g, j * 3 + 2, none⟩ = some (.int .i64 y2) ∧ w.frozen? ⟨g, j * 3 + 1, none⟩ = false ∧ w.frozen? ⟨g, j * 3 + 2, none⟩ = false ∧ Sk P w (.bytes l[j].name) [.slice a0 l[j].name.length p0] := by
  obtain ⟨g, cap, cs, rfl, hp, hg, _, hc, hd⟩ := h.elem j (by rw [Pa.dats_len]; exact hj)
  rw [Pa.dats_at l j hj] at hd
  obtain ⟨a0, p0, y1, y2, rfl, r0⟩ := Pa.skView hd
  exact ⟨g, cap, a0, p0, y1, y2, by rw [Pa.dats_len], hp, hg, (hc 0 _ rfl).1, (hc 1 _ rfl).1, (hc 2 _ rfl).1, (hc 1 _ rfl).2, (hc 2 _ rfl).2, r0⟩
set_option maxHeartbeats 2000000 in
theorem markPas_sk {P : Nat → Prop} (v : Value) (l : List Pa) (k : Int) (w : World) (h : Sk P w (.list 3 (Pa.dats l)) [v]) (h0 : 0 ≤ k) (h1 : k + 16 * Pa.szs l ≤ 4611686018427387904) :
    Calls Tryz.prog 42 #[v, .int .i64 k] w (MkQ P w k (16 * Pa.szs l)) := by
  obtain ⟨a, cap, rfl, hl⟩ := h.lslice
  simp only [Pa.dats_len] at h hl ⊢
  have hpa := Pa.pre_all l
  go_enter Tryz.func42, Tryz.ntmps42
  go_wp2_with fail
  go_loopw [1, 5] (fun kk i wr => ∃ (j : Nat) (k' : Int), kk = .int .i64 k' ∧ i = .int .i64 (j : Int) ∧ j ≤ l.length ∧ k ≤ k' ∧ k' ≤ k + 16 * ((j + Pa.pre l j : Nat) : Int) ∧ Inks P w wr) (fun _ i _ => l.length - (intOf i).toNat)
  case atStart => exact ⟨0, k, rfl, rfl, Nat.zero_le _, Int.le_refl _, by rw [Pa.pre_zero]; simp, Inks.refl _ _⟩
  case round =>
    obtain ⟨j, k', rfl, rfl, hj, hk0, hk1, hw⟩ := hrel
    by_cases hlt : j < l.length
    · obtain ⟨g, cap', a0, p0, y1, y2, e, hp, hg, c0, c1, c2, f1, f2, r0⟩ := Pa.skElem (h.slice_inks hw) j hlt
      cases e
      have i1 : (j : Int) < (l.length : Int) := by omega
      have hps := Pa.pre_succ hlt
      have hpl := Pa.pre_le l (j + 1) (by omega)
      rw [Pa.szEq] at hps
      have hZ : Hid (Pa.pre l (j + 1) = Pa.pre l j + (l[j].name.length)) := hps
      have hK1 : 0 ≤ k' := by omega
      have hK2 : k' ≤ 4611686018427387904 := by omega
      have hB : k' + 16 + 16 * (l[j].name.length : Nat) ≤ 4611686018427387904 := by omega
      clear h hps hpl hpa
      have I0 : Inks P wr wr := Inks.refl _ _
      go_wp2_with fail
      refine (markb_sk (r0.slice_inks I0) _ (by omega) (by omega)).mono ?_
      rintro e w1 ⟨k1, rfl, u1, t1, J1⟩
      have I1 := I0.trans J1
      have hgw1 := Nat.lt_of_lt_of_le hg I1.size
      obtain ⟨y1_1, c1_1⟩ := I1.int hg c1
      have f1_1 := I1.fz hg f1
      obtain ⟨y2_1, c2_1⟩ := I1.int hg c2
      have f2_1 := I1.fz hg f2
      have w1a : -9223372036854775808 ≤ k1 + 1 := by omega
      have w1b : k1 + 1 ≤ 9223372036854775807 := by omega
      have w2a : -9223372036854775808 ≤ k1 + 1 + 1 := by omega
      have w2b : k1 + 1 + 1 ≤ 9223372036854775807 := by omega
      have K1_0 : Inks P w1 w1 := Inks.refl _ _
      obtain ⟨x1, d1⟩ := K1_0.int hgw1 c1_1
      have K1_1 := K1_0.set hp (k1) d1
      obtain ⟨x2, d2⟩ := K1_1.int hgw1 c2_1
      have K1_2 := K1_1.set hp (k1 + 1) d2
      have I1r1 := I1.trans K1_2
      clear d1
      clear d2
      have IE := hw.trans I1r1
      go_wp2_with fail
      go_roundw
      case rel => exact ⟨j + 1, k1 + 1 + 1, by first | rfl | go_num, by go_num, by omega, by omega, by rw [hZ.out]; omega, IE⟩
      case measure => simp [intOf]; omega
    · have i1 : ¬ (j : Int) < (l.length : Int) := by omega
      have i2 : decide ((j : Int) < (l.length : Int)) = false := decide_eq_false i1
      have hkk : j = l.length := by omega
      subst hkk
      clear h
      go_wp2_with fail
      go_ret
      exact ⟨_, rfl, by omega, by omega, hw⟩

theorem Sc.szEq (x : Sc) : x.sz = x.name.length + Pa.szs x.fields := by obtain ⟨name, fields⟩ := x; rfl
theorem Sc.skView {P : Nat → Prop} {w : World} {x : Sc} {cs : List Value} (h : Sk P w x.dat cs) : ∃ a0 p0 a1 p1, cs = [.slice a0 x.name.length p0, .slice a1 x.fields.length p1] ∧ Sk P w (.bytes x.name) [.slice a0 x.name.length p0] ∧ Sk P w (.list 3 (Pa.dats x.fields)) [.slice a1 x.fields.length p1] := by
  obtain ⟨name, fields⟩ := x
  rw [Sc.dat, Sk] at h
  rw [SkAgg] at h
  obtain ⟨c0, d0, rfl, h0, h⟩ := h
  have e0 := h0
  rw [Sk] at e0
  obtain ⟨a0, p0, rfl, _⟩ := e0
  rw [SkAgg] at h
  obtain ⟨c1, d1, rfl, h1, h⟩ := h
  have e1 := h1
  rw [Sk] at e1
  obtain ⟨a1, p1, rfl, _⟩ := e1
  rw [Pa.dats_len] at h1
  rw [SkAgg] at h
  subst h
  exact ⟨_, _, _, _, by simp only [Pa.dats_len]; rfl, h0, h1⟩
theorem Sc.skElem {P : Nat → Prop} {w : World} {l : List Sc} {v : Value} (h : Sk P w (.list 2 (Sc.dats l)) [v]) (j : Nat) (hj : j < l.length) : ∃ g cap a0 p0 a1 p1, v = .slice (some ⟨g, 0, none⟩) l.length cap ∧ P g ∧ g < w.heap.size ∧ w.cell? ⟨g, j * 2, none⟩ = some (.slice a0 l[j].name.length p0) ∧ w.cell? ⟨g, j * 2 + 1, none⟩ = some (.slice a1 l[j].fields.length p1) ∧ Sk P w (.bytes l[j].name) [.slice a0 l[j].name.length p0] ∧ Sk P w (.list 3 (Pa.dats l[j].fields)) [.slice a1 l[j].fields.length p1] := by
  obtain ⟨g, cap, cs, rfl, hp, hg, _, hc, hd⟩ := h.elem j (by rw [Sc.dats_len]; exact hj)
  rw [Sc.dats_at l j hj] at hd
  obtain ⟨a0, p0, a1, p1, rfl, r0, r1⟩ := Sc.skView hd
  exact ⟨g, cap, a0, p0, a1, p1, by rw [Sc.dats_len], hp, hg, (hc 0 _ rfl).1, (hc 1 _ rfl).1, r0, r1⟩
set_option maxHeartbeats 2000000 in
theorem markScs_sk {P : Nat → Prop} (v : Value) (l : List Sc) (k : Int) (w : World) (h : Sk P w (.list 2 (Sc.dats l)) [v]) (h0 : 0 ≤ k) (h1 : k + 16 * Sc.szs l ≤ 4611686018427387904) :
    Calls Tryz.prog 24 #[v, .int .i64 k] w (MkQ P w k (16 * Sc.szs l)) := by
  obtain ⟨a, cap, rfl, hl⟩ := h.lslice
  simp only [Sc.dats_len] at h hl ⊢
  have hpa := Sc.pre_all l
  go_enter Tryz.func24, Tryz.ntmps24
  go_wp2_with fail
  go_loopw [1, 5] (fun kk i wr => ∃ (j : Nat) (k' : Int), kk = .int .i64 k' ∧ i = .int .i64 (j : Int) ∧ j ≤ l.length ∧ k ≤ k' ∧ k' ≤ k + 16 * ((j + Sc.pre l j : Nat) : Int) ∧ Inks P w wr) (fun _ i _ => l.length - (intOf i).toNat)
  case atStart => exact ⟨0, k, rfl, rfl, Nat.zero_le _, Int.le_refl _, by rw [Sc.pre_zero]; simp, Inks.refl _ _⟩
  case round =>
    obtain ⟨j, k', rfl, rfl, hj, hk0, hk1, hw⟩ := hrel
    by_cases hlt : j < l.length
    · obtain ⟨g, cap', a0, p0, a1, p1, e, hp, hg, c0, c1, r0, r1⟩ := Sc.skElem (h.slice_inks hw) j hlt
      cases e
      have i1 : (j : Int) < (l.length : Int) := by omega
      have hps := Sc.pre_succ hlt
      have hpl := Sc.pre_le l (j + 1) (by omega)
      rw [Sc.szEq] at hps
      have hZ : Hid (Sc.pre l (j + 1) = Sc.pre l j + (l[j].name.length + Pa.szs l[j].fields)) := hps
      have hK1 : 0 ≤ k' := by omega
      have hK2 : k' ≤ 4611686018427387904 := by omega
      have hB : k' + 16 + 16 * (l[j].name.length + Pa.szs l[j].fields : Nat) ≤ 4611686018427387904 := by omega
      clear h hps hpl hpa
      have I0 : Inks P wr wr := Inks.refl _ _
      go_wp2_with fail
      refine (markb_sk (r0.slice_inks I0) _ (by omega) (by omega)).mono ?_
      rintro e w1 ⟨k1, rfl, u1, t1, J1⟩
      have I1 := I0.trans J1
      have hgw1 := Nat.lt_of_lt_of_le hg I1.size
      have c1_1 := I1.slice hg c1
      go_wp2_with fail
      refine (markPas_sk _ _ _ _ (r1.slice_inks I1) (by omega) (by omega)).mono ?_
      rintro e w2 ⟨k2, rfl, u2, t2, J2⟩
      have I2 := I1.trans J2
      have hgw2 := Nat.lt_of_lt_of_le hg I2.size
      have IE := hw.trans I2
      go_wp2_with fail
      go_roundw
      case rel => exact ⟨j + 1, k2, by first | rfl | go_num, by go_num, by omega, by omega, by rw [hZ.out]; omega, IE⟩
      case measure => simp [intOf]; omega
    · have i1 : ¬ (j : Int) < (l.length : Int) := by omega
      have i2 : decide ((j : Int) < (l.length : Int)) = false := decide_eq_false i1
      have hkk : j = l.length := by omega
      subst hkk
      clear h
      go_wp2_with fail
      go_ret
      exact ⟨_, rfl, by omega, by omega, hw⟩

theorem Ex.szEq (x : Ex) : x.sz = x.name.length + Ex.szs x.kids := by obtain ⟨kind, n, tk, tn, name, kids⟩ := x; rfl
theorem Ex.skView {P : Nat → Prop} {w : World} {x : Ex} {cs : List Value} (h : Sk P w x.dat cs) : ∃ y0 y1 y2 y3 a4 p4 a5 p5, cs = [.int .i64 y0, .int .i64 y1, .int .i64 y2, .int .i64 y3, .slice a4 x.name.length p4, .slice a5 x.kids.length p5] ∧ Sk P w (.bytes x.name) [.slice a4 x.name.length p4] ∧ Sk P w (.list 6 (Ex.dats x.kids)) [.slice a5 x.kids.length p5] := by
  obtain ⟨kind, n, tk, tn, name, kids⟩ := x
  rw [Ex.dat, Sk] at h
  rw [SkAgg] at h
  obtain ⟨c0, d0, rfl, h0, h⟩ := h
  rw [Sk] at h0
  obtain ⟨y0, rfl⟩ := h0
  rw [SkAgg] at h
  obtain ⟨c1, d1, rfl, h1, h⟩ := h
  rw [Sk] at h1
  obtain ⟨y1, rfl⟩ := h1
  rw [SkAgg] at h
  obtain ⟨c2, d2, rfl, h2, h⟩ := h
  rw [Sk] at h2
  obtain ⟨y2, rfl⟩ := h2
  rw [SkAgg] at h
  obtain ⟨c3, d3, rfl, h3, h⟩ := h
  rw [Sk] at h3
  obtain ⟨y3, rfl⟩ := h3
  rw [SkAgg] at h
  obtain ⟨c4, d4, rfl, h4, h⟩ := h
  have e4 := h4
  rw [Sk] at e4
  obtain ⟨a4, p4, rfl, _⟩ := e4
  rw [SkAgg] at h
  obtain ⟨c5, d5, rfl, h5, h⟩ := h
  have e5 := h5
  rw [Sk] at e5
  obtain ⟨a5, p5, rfl, _⟩ := e5
  rw [Ex.dats_len] at h5
  rw [SkAgg] at h
  subst h
  exact ⟨_, _, _, _, _, _, _, _, by simp only [Ex.dats_len]; rfl, h4, h5⟩
theorem Ex.skElem {P : Nat → Prop} {w : World} {l : List Ex} {v : Value} (h : Sk P w (.list 6 (Ex.dats l)) [v]) (j : Nat) (hj : j < l.length) : ∃ g cap y0 y1 y2 y3 a4 p4 a5 p5, v = .slice (some ⟨g, 0, none⟩) l.length cap ∧ P g ∧ g < w.heap.size ∧ w.cell? ⟨g, j * 6, none⟩ = some (.int .i64 y0) ∧ w.cell? ⟨g, j * 6 + 1, none⟩ = some (.int .i64 y1) ∧ w.cell? ⟨g, j * 6 + 2, none⟩ = some (.int .i64 y2) ∧ w.cell? ⟨g, j * 6 + 3, none⟩ = some (.int .i64 y3) ∧ w.cell? ⟨g, j * 6 + 4, none⟩ = some (.slice a4 l[j].name.length p4) ∧ w.cell? ⟨g, j * 6 + 5, none⟩ = some (.slice a5 l[j].kids.length p5) ∧ w.frozen? ⟨g, j * 6, none⟩ = false ∧ w.frozen? ⟨g, j * 6 + 1, none⟩ = false ∧ w.frozen? ⟨g, j * 6 + 2, none⟩ = false ∧ w.frozen? ⟨g, j * 6 + 3, none⟩ = false ∧ Sk P w (.bytes l[j].name) [.slice a4 l[j].name.length p4] ∧ Sk P w (.list 6 (Ex.dats l[j].kids)) [.slice a5 l[j].kids.length p5] := by
  obtain ⟨g, cap, cs, rfl, hp, hg, _, hc, hd⟩ := h.elem j (by rw [Ex.dats_len]; exact hj)
  rw [Ex.dats_at l j hj] at hd
  obtain ⟨y0, y1, y2, y3, a4, p4, a5, p5, rfl, r4, r5⟩ := Ex.skView hd
  exact ⟨g, cap, y0, y1, y2, y3, a4, p4, a5, p5, by rw [Ex.dats_len], hp, hg, (hc 0 _ rfl).1, (hc 1 _ rfl).1, (hc 2 _ rfl).1, (hc 3 _ rfl).1, (hc 4 _ rfl).1, (hc 5 _ rfl).1, (hc 0 _ rfl).2, (hc 1 _ rfl).2, (hc 2 _ rfl).2, (hc 3 _ rfl).2, r4, r5⟩
set_option maxHeartbeats 2000000 in
theorem markExs_all {P : Nat → Prop} (N : Nat) : ∀ (v : Value) (l : List Ex) (k : Int) (w : World), Ex.szs l ≤ N → Sk P w (.list 6 (Ex.dats l)) [v] → 0 ≤ k → k + 16 * Ex.szs l ≤ 4611686018427387904 →
    Calls Tryz.prog 69 #[v, .int .i64 k] w (MkQ P w k (16 * Ex.szs l)) := by
  induction N using Nat.strongRecOn with
  | _ N IH =>
  intro v l k w hN h h0 h1
  obtain ⟨a, cap, rfl, hl⟩ := h.lslice
  simp only [Ex.dats_len] at h hl ⊢
  have hpa := Ex.pre_all l
  go_enter Tryz.func69, Tryz.ntmps69
  go_wp2_with fail
  go_loopw [1, 5] (fun kk i wr => ∃ (j : Nat) (k' : Int), kk = .int .i64 k' ∧ i = .int .i64 (j : Int) ∧ j ≤ l.length ∧ k ≤ k' ∧ k' ≤ k + 16 * ((j + Ex.pre l j : Nat) : Int) ∧ Inks P w wr) (fun _ i _ => l.length - (intOf i).toNat)
  case atStart => exact ⟨0, k, rfl, rfl, Nat.zero_le _, Int.le_refl _, by rw [Ex.pre_zero]; simp, Inks.refl _ _⟩
  case round =>
    obtain ⟨j, k', rfl, rfl, hj, hk0, hk1, hw⟩ := hrel
    by_cases hlt : j < l.length
    · obtain ⟨g, cap', y0, y1, y2, y3, a4, p4, a5, p5, e, hp, hg, c0, c1, c2, c3, c4, c5, f0, f1, f2, f3, r4, r5⟩ := Ex.skElem (h.slice_inks hw) j hlt
      cases e
      have i1 : (j : Int) < (l.length : Int) := by omega
      have hps := Ex.pre_succ hlt
      have hpl := Ex.pre_le l (j + 1) (by omega)
      rw [Ex.szEq] at hps
      have hZ : Hid (Ex.pre l (j + 1) = Ex.pre l j + (l[j].name.length + Ex.szs l[j].kids)) := hps
      have hK1 : 0 ≤ k' := by omega
      have hK2 : k' ≤ 4611686018427387904 := by omega
      have hB : k' + 16 + 16 * (l[j].name.length + Ex.szs l[j].kids : Nat) ≤ 4611686018427387904 := by omega
      have hszl := Ex.sz_at l j hlt
      rw [Ex.szEq] at hszl
      clear h hps hpl hpa
      have I0 : Inks P wr wr := Inks.refl _ _
      have w0a : -9223372036854775808 ≤ k' + 1 := by omega
      have w0b : k' + 1 ≤ 9223372036854775807 := by omega
      have w1a : -9223372036854775808 ≤ k' + 1 + 1 := by omega
      have w1b : k' + 1 + 1 ≤ 9223372036854775807 := by omega
      have w2a : -9223372036854775808 ≤ k' + 1 + 1 + 1 := by omega
      have w2b : k' + 1 + 1 + 1 ≤ 9223372036854775807 := by omega
      have w3a : -9223372036854775808 ≤ k' + 1 + 1 + 1 + 1 := by omega
      have w3b : k' + 1 + 1 + 1 + 1 ≤ 9223372036854775807 := by omega
      have K0_0 : Inks P wr wr := Inks.refl _ _
      obtain ⟨x0, d0⟩ := K0_0.int hg c0
      have K0_1 := K0_0.set hp (k') d0
      obtain ⟨x1, d1⟩ := K0_1.int hg c1
      have K0_2 := K0_1.set hp (k' + 1) d1
      obtain ⟨x2, d2⟩ := K0_2.int hg c2
      have K0_3 := K0_2.set hp (k' + 1 + 1) d2
      obtain ⟨x3, d3⟩ := K0_3.int hg c3
      have K0_4 := K0_3.set hp (k' + 1 + 1 + 1) d3
      have I0r0 := I0.trans K0_4
      clear d0
      clear d1
      clear d2
      clear d3
      go_wp2_with fail
      refine (markb_sk (r4.slice_inks I0r0) _ (by omega) (by omega)).mono ?_
      rintro e w1 ⟨k1, rfl, u1, t1, J1⟩
      have I1 := I0r0.trans J1
      have hgw1 := Nat.lt_of_lt_of_le hg I1.size
      have c5_1 := I1.slice hg c5
      go_wp2_with fail
      refine (IH (Ex.szs l[j].kids) (by omega) _ _ _ _ (Nat.le_refl _) (r5.slice_inks I1) (by omega) (by omega)).mono ?_
      rintro e w2 ⟨k2, rfl, u2, t2, J2⟩
      have I2 := I1.trans J2
      have hgw2 := Nat.lt_of_lt_of_le hg I2.size
      have IE := hw.trans I2
      go_wp2_with fail
      go_roundw
      case rel => exact ⟨j + 1, k2, by first | rfl | go_num, by go_num, by omega, by omega, by rw [hZ.out]; omega, IE⟩
      case measure => simp [intOf]; omega
    · have i1 : ¬ (j : Int) < (l.length : Int) := by omega
      have i2 : decide ((j : Int) < (l.length : Int)) = false := decide_eq_false i1
      have hkk : j = l.length := by omega
      subst hkk
      clear h
      go_wp2_with fail
      go_ret
      exact ⟨_, rfl, by omega, by omega, hw⟩
theorem markExs_sk {P : Nat → Prop} (v : Value) (l : List Ex) (k : Int) (w : World) (h : Sk P w (.list 6 (Ex.dats l)) [v]) (h0 : 0 ≤ k) (h1 : k + 16 * Ex.szs l ≤ 4611686018427387904) :
    Calls Tryz.prog 69 #[v, .int .i64 k] w (MkQ P w k (16 * Ex.szs l)) := markExs_all _ v l k w (Nat.le_refl _) h h0 h1

theorem St.szEq (x : St) : x.sz = x.name.length + Ex.szs x.kids + St.szs x.body + St.szs x.els := by obtain ⟨kind, n, tk, tn, name, kids, body, els⟩ := x; rfl
theorem St.skView {P : Nat → Prop} {w : World} {x : St} {cs : List Value} (h : Sk P w x.dat cs) : ∃ y0 y1 y2 y3 a4 p4 a5 p5 a6 p6 a7 p7, cs = [.int .i64 y0, .int .i64 y1, .int .i64 y2, .int .i64 y3, .slice a4 x.name.length p4, .slice a5 x.kids.length p5, .slice a6 x.body.length p6, .slice a7 x.els.length p7] ∧ Sk P w (.bytes x.name) [.slice a4 x.name.length p4] ∧ Sk P w (.list 6 (Ex.dats x.kids)) [.slice a5 x.kids.length p5] ∧ Sk P w (.list 8 (St.dats x.body)) [.slice a6 x.body.length p6] ∧ Sk P w (.list 8 (St.dats x.els)) [.slice a7 x.els.length p7] := by
  obtain ⟨kind, n, tk, tn, name, kids, body, els⟩ := x
  rw [St.dat, Sk] at h
  rw [SkAgg] at h
  obtain ⟨c0, d0, rfl, h0, h⟩ := h
  rw [Sk] at h0
  obtain ⟨y0, rfl⟩ := h0
  rw [SkAgg] at h
  obtain ⟨c1, d1, rfl, h1, h⟩ := h
  rw [Sk] at h1
  obtain ⟨y1, rfl⟩ := h1
  rw [SkAgg] at h
  obtain ⟨c2, d2, rfl, h2, h⟩ := h
  rw [Sk] at h2
  obtain ⟨y2, rfl⟩ := h2
  rw [SkAgg] at h
  obtain ⟨c3, d3, rfl, h3, h⟩ := h
  rw [Sk] at h3
  obtain ⟨y3, rfl⟩ := h3
  rw [SkAgg] at h
  obtain ⟨c4, d4, rfl, h4, h⟩ := h
  have e4 := h4
  rw [Sk] at e4
  obtain ⟨a4, p4, rfl, _⟩ := e4
  rw [SkAgg] at h
  obtain ⟨c5, d5, rfl, h5, h⟩ := h
  have e5 := h5
  rw [Sk] at e5
  obtain ⟨a5, p5, rfl, _⟩ := e5
  rw [Ex.dats_len] at h5
  rw [SkAgg] at h
  obtain ⟨c6, d6, rfl, h6, h⟩ := h
  have e6 := h6
  rw [Sk] at e6
  obtain ⟨a6, p6, rfl, _⟩ := e6
  rw [St.dats_len] at h6
  rw [SkAgg] at h
  obtain ⟨c7, d7, rfl, h7, h⟩ := h
  have e7 := h7
  rw [Sk] at e7
  obtain ⟨a7, p7, rfl, _⟩ := e7
  rw [St.dats_len] at h7
  rw [SkAgg] at h
  subst h
  exact ⟨_, _, _, _, _, _, _, _, _, _, _, _, by simp only [Ex.dats_len, St.dats_len]; rfl, h4, h5, h6, h7⟩
theorem St.skElem {P : Nat → Prop} {w : World} {l : List St} {v : Value} (h : Sk P w (.list 8 (St.dats l)) [v]) (j : Nat) (hj : j < l.length) : ∃ g cap y0 y1 y2 y3 a4 p4 a5 p5 a6 p6 a7 p7, v = .slice (some ⟨g, 0, none⟩) l.length cap ∧ P g ∧ g < w.heap.size ∧ w.cell? ⟨g, j * 8, none⟩ = some (.int .i64 y0) ∧ w.cell? ⟨g, j * 8 + 1, none⟩ = some (.int .i64 y1) ∧ w.cell? ⟨g, j * 8 + 2, none⟩ = some (.int .i64 y2) ∧ w.cell? ⟨g, j * 8 + 3, none⟩ = some (.int .i64 y3) ∧ w.cell? ⟨g, j * 8 + 4, none⟩ = some (.slice a4 l[j].name.length p4) ∧ w.cell? ⟨g, j * 8 + 5, none⟩ = some (.slice a5 l[j].kids.length p5) ∧ w.cell? ⟨g, j * 8 + 6, none⟩ = some (.slice a6 l[j].body.length p6) ∧ w.cell? ⟨g, j * 8 + 7, none⟩ = some (.slice a7 l[j].els.length p7) ∧ w.frozen? ⟨g, j * 8, none⟩ = false ∧ w.frozen? ⟨g, j * 8 + 1, none⟩ = false ∧ w.frozen? ⟨g, j * 8 + 2, none⟩ = false ∧ w.frozen? ⟨g, j * 8 + 3, none⟩ = false ∧ Sk P w (.bytes l[j].name) [.slice a4 l[j].name.length p4] ∧ Sk P w (.list 6 (Ex.dats l[j].kids)) [.slice a5 l[j].kids.length p5] ∧ Sk P w (.list 8 (St.dats l[j].body)) [.slice a6 l[j].body.length p6] ∧ Sk P w (.list 8 (St.dats l[j].els)) [.slice a7 l[j].els.length p7] := by
  obtain ⟨g, cap, cs, rfl, hp, hg, _, hc, hd⟩ := h.elem j (by rw [St.dats_len]; exact hj)
  rw [St.dats_at l j hj] at hd
  obtain ⟨y0, y1, y2, y3, a4, p4, a5, p5, a6, p6, a7, p7, rfl, r4, r5, r6, r7⟩ := St.skView hd
  exact ⟨g, cap, y0, y1, y2, y3, a4, p4, a5, p5, a6, p6, a7, p7, by rw [St.dats_len], hp, hg, (hc 0 _ rfl).1, (hc 1 _ rfl).1, (hc 2 _ rfl).1, (hc 3 _ rfl).1, (hc 4 _ rfl).1, (hc 5 _ rfl).1, (hc 6 _ rfl).1, (hc 7 _ rfl).1, (hc 0 _ rfl).2, (hc 1 _ rfl).2, (hc 2 _ rfl).2, (hc 3 _ rfl).2, r4, r5, r6, r7⟩
set_option maxHeartbeats 2000000 in
theorem markSts_all {P : Nat → Prop} (N : Nat) : ∀ (v : Value) (l : List St) (k : Int) (w : World), St.szs l ≤ N → Sk P w (.list 8 (St.dats l)) [v] → 0 ≤ k → k + 16 * St.szs l ≤ 4611686018427387904 →
    Calls Tryz.prog 43 #[v, .int .i64 k] w (MkQ P w k (16 * St.szs l)) := by
  induction N using Nat.strongRecOn with
  | _ N IH =>
  intro v l k w hN h h0 h1
  obtain ⟨a, cap, rfl, hl⟩ := h.lslice
  simp only [St.dats_len] at h hl ⊢
  have hpa := St.pre_all l
  go_enter Tryz.func43, Tryz.ntmps43
  go_wp2_with fail
  go_loopw [1, 5] (fun kk i wr => ∃ (j : Nat) (k' : Int), kk = .int .i64 k' ∧ i = .int .i64 (j : Int) ∧ j ≤ l.length ∧ k ≤ k' ∧ k' ≤ k + 16 * ((j + St.pre l j : Nat) : Int) ∧ Inks P w wr) (fun _ i _ => l.length - (intOf i).toNat)
  case atStart => exact ⟨0, k, rfl, rfl, Nat.zero_le _, Int.le_refl _, by rw [St.pre_zero]; simp, Inks.refl _ _⟩
  case round =>
    obtain ⟨j, k', rfl, rfl, hj, hk0, hk1, hw⟩ := hrel
    by_cases hlt : j < l.length
    · obtain ⟨g, cap', y0, y1, y2, y3, a4, p4, a5, p5, a6, p6, a7, p7, e, hp, hg, c0, c1, c2, c3, c4, c5, c6, c7, f0, f1, f2, f3, r4, r5, r6, r7⟩ := St.skElem (h.slice_inks hw) j hlt
      cases e
      have i1 : (j : Int) < (l.length : Int) := by omega
      have hps := St.pre_succ hlt
      have hpl := St.pre_le l (j + 1) (by omega)
      rw [St.szEq] at hps
      have hZ : Hid (St.pre l (j + 1) = St.pre l j + (l[j].name.length + Ex.szs l[j].kids + St.szs l[j].body + St.szs l[j].els)) := hps
      have hK1 : 0 ≤ k' := by omega
      have hK2 : k' ≤ 4611686018427387904 := by omega
      have hB : k' + 16 + 16 * (l[j].name.length + Ex.szs l[j].kids + St.szs l[j].body + St.szs l[j].els : Nat) ≤ 4611686018427387904 := by omega
      have hszl := St.sz_at l j hlt
      rw [St.szEq] at hszl
      clear h hps hpl hpa
      have I0 : Inks P wr wr := Inks.refl _ _
      have w0a : -9223372036854775808 ≤ k' + 1 := by omega
      have w0b : k' + 1 ≤ 9223372036854775807 := by omega
      have w1a : -9223372036854775808 ≤ k' + 1 + 1 := by omega
      have w1b : k' + 1 + 1 ≤ 9223372036854775807 := by omega
      have w2a : -9223372036854775808 ≤ k' + 1 + 1 + 1 := by omega
      have w2b : k' + 1 + 1 + 1 ≤ 9223372036854775807 := by omega
      have w3a : -9223372036854775808 ≤ k' + 1 + 1 + 1 + 1 := by omega
      have w3b : k' + 1 + 1 + 1 + 1 ≤ 9223372036854775807 := by omega
      have K0_0 : Inks P wr wr := Inks.refl _ _
      obtain ⟨x0, d0⟩ := K0_0.int hg c0
      have K0_1 := K0_0.set hp (k') d0
      obtain ⟨x1, d1⟩ := K0_1.int hg c1
      have K0_2 := K0_1.set hp (k' + 1) d1
      obtain ⟨x2, d2⟩ := K0_2.int hg c2
      have K0_3 := K0_2.set hp (k' + 1 + 1) d2
      obtain ⟨x3, d3⟩ := K0_3.int hg c3
      have K0_4 := K0_3.set hp (k' + 1 + 1 + 1) d3
      have I0r0 := I0.trans K0_4
      clear d0
      clear d1
      clear d2
      clear d3
      go_wp2_with fail
      refine (markb_sk (r4.slice_inks I0r0) _ (by omega) (by omega)).mono ?_
      rintro e w1 ⟨k1, rfl, u1, t1, J1⟩
      have I1 := I0r0.trans J1
      have hgw1 := Nat.lt_of_lt_of_le hg I1.size
      have c5_1 := I1.slice hg c5
      have c6_1 := I1.slice hg c6
      have c7_1 := I1.slice hg c7
      go_wp2_with fail
      refine (markExs_sk _ _ _ _ (r5.slice_inks I1) (by omega) (by omega)).mono ?_
      rintro e w2 ⟨k2, rfl, u2, t2, J2⟩
      have I2 := I1.trans J2
      have hgw2 := Nat.lt_of_lt_of_le hg I2.size
      have c6_2 := I2.slice hg c6
      have c7_2 := I2.slice hg c7
      go_wp2_with fail
      refine (IH (St.szs l[j].body) (by omega) _ _ _ _ (Nat.le_refl _) (r6.slice_inks I2) (by omega) (by omega)).mono ?_
      rintro e w3 ⟨k3, rfl, u3, t3, J3⟩
      have I3 := I2.trans J3
      have hgw3 := Nat.lt_of_lt_of_le hg I3.size
      have c7_3 := I3.slice hg c7
      go_wp2_with fail
      refine (IH (St.szs l[j].els) (by omega) _ _ _ _ (Nat.le_refl _) (r7.slice_inks I3) (by omega) (by omega)).mono ?_
      rintro e w4 ⟨k4, rfl, u4, t4, J4⟩
      have I4 := I3.trans J4
      have hgw4 := Nat.lt_of_lt_of_le hg I4.size
      have IE := hw.trans I4
      go_wp2_with fail
      go_roundw
      case rel => exact ⟨j + 1, k4, by first | rfl | go_num, by go_num, by omega, by omega, by rw [hZ.out]; omega, IE⟩
      case measure => simp [intOf]; omega
    · have i1 : ¬ (j : Int) < (l.length : Int) := by omega
      have i2 : decide ((j : Int) < (l.length : Int)) = false := decide_eq_false i1
      have hkk : j = l.length := by omega
      subst hkk
      clear h
      go_wp2_with fail
      go_ret
      exact ⟨_, rfl, by omega, by omega, hw⟩
theorem markSts_sk {P : Nat → Prop} (v : Value) (l : List St) (k : Int) (w : World) (h : Sk P w (.list 8 (St.dats l)) [v]) (h0 : 0 ≤ k) (h1 : k + 16 * St.szs l ≤ 4611686018427387904) :
    Calls Tryz.prog 43 #[v, .int .i64 k] w (MkQ P w k (16 * St.szs l)) := markSts_all _ v l k w (Nat.le_refl _) h h0 h1

theorem Fu.szEq (x : Fu) : x.sz = x.name.length + Pa.szs x.params + St.szs x.body := by obtain ⟨name, params, rk, rn, body⟩ := x; rfl
theorem Fu.skView {P : Nat → Prop} {w : World} {x : Fu} {cs : List Value} (h : Sk P w x.dat cs) : ∃ a0 p0 a1 p1 y2 y3 a4 p4, cs = [.slice a0 x.name.length p0, .slice a1 x.params.length p1, .int .i64 y2, .int .i64 y3, .slice a4 x.body.length p4] ∧ Sk P w (.bytes x.name) [.slice a0 x.name.length p0] ∧ Sk P w (.list 3 (Pa.dats x.params)) [.slice a1 x.params.length p1] ∧ Sk P w (.list 8 (St.dats x.body)) [.slice a4 x.body.length p4] := by
  obtain ⟨name, params, rk, rn, body⟩ := x
  rw [Fu.dat, Sk] at h
  rw [SkAgg] at h
  obtain ⟨c0, d0, rfl, h0, h⟩ := h
  have e0 := h0
  rw [Sk] at e0
  obtain ⟨a0, p0, rfl, _⟩ := e0
  rw [SkAgg] at h
  obtain ⟨c1, d1, rfl, h1, h⟩ := h
  have e1 := h1
  rw [Sk] at e1
  obtain ⟨a1, p1, rfl, _⟩ := e1
  rw [Pa.dats_len] at h1
  rw [SkAgg] at h
  obtain ⟨c2, d2, rfl, h2, h⟩ := h
  rw [Sk] at h2
  obtain ⟨y2, rfl⟩ := h2
  rw [SkAgg] at h
  obtain ⟨c3, d3, rfl, h3, h⟩ := h
  rw [Sk] at h3
  obtain ⟨y3, rfl⟩ := h3
  rw [SkAgg] at h
  obtain ⟨c4, d4, rfl, h4, h⟩ := h
  have e4 := h4
  rw [Sk] at e4
  obtain ⟨a4, p4, rfl, _⟩ := e4
  rw [St.dats_len] at h4
  rw [SkAgg] at h
  subst h
  exact ⟨_, _, _, _, _, _, _, _, by simp only [Pa.dats_len, St.dats_len]; rfl, h0, h1, h4⟩
theorem Fu.skElem {P : Nat → Prop} {w : World} {l : List Fu} {v : Value} (h : Sk P w (.list 5 (Fu.dats l)) [v]) (j : Nat) (hj : j < l.length) : ∃ g cap a0 p0 a1 p1 y2 y3 a4 p4, v = .slice (some ⟨g, 0, none⟩) l.length cap ∧ P g ∧ g < w.heap.size ∧ w.cell? ⟨g, j * 5, none⟩ = some (.slice a0 l[j].name.length p0) ∧ w.cell? ⟨g, j * 5 + 1, none⟩ = some (.slice a1 l[j].params.length p1) ∧ w.cell? ⟨g, j * 5 + 2, none⟩ = some (.int .i64 y2) ∧ w.cell? ⟨g, j * 5 + 3, none⟩ = some (.int .i64 y3) ∧ w.cell? ⟨g, j * 5 + 4, none⟩ = some (.slice a4 l[j].body.length p4) ∧ w.frozen? ⟨g, j * 5 + 2, none⟩ = false ∧ w.frozen? ⟨g, j * 5 + 3, none⟩ = false ∧ Sk P w (.bytes l[j].name) [.slice a0 l[j].name.length p0] ∧ Sk P w (.list 3 (Pa.dats l[j].params)) [.slice a1 l[j].params.length p1] ∧ Sk P w (.list 8 (St.dats l[j].body)) [.slice a4 l[j].body.length p4] := by
  obtain ⟨g, cap, cs, rfl, hp, hg, _, hc, hd⟩ := h.elem j (by rw [Fu.dats_len]; exact hj)
  rw [Fu.dats_at l j hj] at hd
  obtain ⟨a0, p0, a1, p1, y2, y3, a4, p4, rfl, r0, r1, r4⟩ := Fu.skView hd
  exact ⟨g, cap, a0, p0, a1, p1, y2, y3, a4, p4, by rw [Fu.dats_len], hp, hg, (hc 0 _ rfl).1, (hc 1 _ rfl).1, (hc 2 _ rfl).1, (hc 3 _ rfl).1, (hc 4 _ rfl).1, (hc 2 _ rfl).2, (hc 3 _ rfl).2, r0, r1, r4⟩
set_option maxHeartbeats 2000000 in
theorem markFus_sk {P : Nat → Prop} (v : Value) (l : List Fu) (k : Int) (w : World) (h : Sk P w (.list 5 (Fu.dats l)) [v]) (h0 : 0 ≤ k) (h1 : k + 16 * Fu.szs l ≤ 4611686018427387904) :
    Calls Tryz.prog 25 #[v, .int .i64 k] w (MkQ P w k (16 * Fu.szs l)) := by
  obtain ⟨a, cap, rfl, hl⟩ := h.lslice
  simp only [Fu.dats_len] at h hl ⊢
  have hpa := Fu.pre_all l
  go_enter Tryz.func25, Tryz.ntmps25
  go_wp2_with fail
  go_loopw [1, 5] (fun kk i wr => ∃ (j : Nat) (k' : Int), kk = .int .i64 k' ∧ i = .int .i64 (j : Int) ∧ j ≤ l.length ∧ k ≤ k' ∧ k' ≤ k + 16 * ((j + Fu.pre l j : Nat) : Int) ∧ Inks P w wr) (fun _ i _ => l.length - (intOf i).toNat)
  case atStart => exact ⟨0, k, rfl, rfl, Nat.zero_le _, Int.le_refl _, by rw [Fu.pre_zero]; simp, Inks.refl _ _⟩
  case round =>
    obtain ⟨j, k', rfl, rfl, hj, hk0, hk1, hw⟩ := hrel
    by_cases hlt : j < l.length
    · obtain ⟨g, cap', a0, p0, a1, p1, y2, y3, a4, p4, e, hp, hg, c0, c1, c2, c3, c4, f2, f3, r0, r1, r4⟩ := Fu.skElem (h.slice_inks hw) j hlt
      cases e
      have i1 : (j : Int) < (l.length : Int) := by omega
      have hps := Fu.pre_succ hlt
      have hpl := Fu.pre_le l (j + 1) (by omega)
      rw [Fu.szEq] at hps
      have hZ : Hid (Fu.pre l (j + 1) = Fu.pre l j + (l[j].name.length + Pa.szs l[j].params + St.szs l[j].body)) := hps
      have hK1 : 0 ≤ k' := by omega
      have hK2 : k' ≤ 4611686018427387904 := by omega
      have hB : k' + 16 + 16 * (l[j].name.length + Pa.szs l[j].params + St.szs l[j].body : Nat) ≤ 4611686018427387904 := by omega
      clear h hps hpl hpa
      have I0 : Inks P wr wr := Inks.refl _ _
      go_wp2_with fail
      refine (markb_sk (r0.slice_inks I0) _ (by omega) (by omega)).mono ?_
      rintro e w1 ⟨k1, rfl, u1, t1, J1⟩
      have I1 := I0.trans J1
      have hgw1 := Nat.lt_of_lt_of_le hg I1.size
      have c1_1 := I1.slice hg c1
      obtain ⟨y2_1, c2_1⟩ := I1.int hg c2
      have f2_1 := I1.fz hg f2
      obtain ⟨y3_1, c3_1⟩ := I1.int hg c3
      have f3_1 := I1.fz hg f3
      have c4_1 := I1.slice hg c4
      go_wp2_with fail
      refine (markPas_sk _ _ _ _ (r1.slice_inks I1) (by omega) (by omega)).mono ?_
      rintro e w2 ⟨k2, rfl, u2, t2, J2⟩
      have I2 := I1.trans J2
      have hgw2 := Nat.lt_of_lt_of_le hg I2.size
      obtain ⟨y2_2, c2_2⟩ := I2.int hg c2
      have f2_2 := I2.fz hg f2
      obtain ⟨y3_2, c3_2⟩ := I2.int hg c3
      have f3_2 := I2.fz hg f3
      have c4_2 := I2.slice hg c4
      have w2a : -9223372036854775808 ≤ k2 + 1 := by omega
      have w2b : k2 + 1 ≤ 9223372036854775807 := by omega
      have w3a : -9223372036854775808 ≤ k2 + 1 + 1 := by omega
      have w3b : k2 + 1 + 1 ≤ 9223372036854775807 := by omega
      have K2_0 : Inks P w2 w2 := Inks.refl _ _
      obtain ⟨x2, d2⟩ := K2_0.int hgw2 c2_2
      have K2_1 := K2_0.set hp (k2) d2
      obtain ⟨x3, d3⟩ := K2_1.int hgw2 c3_2
      have K2_2 := K2_1.set hp (k2 + 1) d3
      have I2r2 := I2.trans K2_2
      clear d2
      clear d3
      go_wp2_with fail
      refine (markSts_sk _ _ _ _ (r4.slice_inks I2r2) (by omega) (by omega)).mono ?_
      rintro e w3 ⟨k3, rfl, u3, t3, J3⟩
      have I3 := I2r2.trans J3
      have hgw3 := Nat.lt_of_lt_of_le hg I3.size
      have IE := hw.trans I3
      go_wp2_with fail
      go_roundw
      case rel => exact ⟨j + 1, k3, by first | rfl | go_num, by go_num, by omega, by omega, by rw [hZ.out]; omega, IE⟩
      case measure => simp [intOf]; omega
    · have i1 : ¬ (j : Int) < (l.length : Int) := by omega
      have i2 : decide ((j : Int) < (l.length : Int)) = false := decide_eq_false i1
      have hkk : j = l.length := by omega
      subst hkk
      clear h
      go_wp2_with fail
      go_ret
      exact ⟨_, rfl, by omega, by omega, hw⟩

theorem So.szEq (x : So) : x.sz = Sc.szs x.structs + Fu.szs x.funcs := by obtain ⟨structs, funcs⟩ := x; rfl
theorem So.skView {P : Nat → Prop} {w : World} {x : So} {cs : List Value} (h : Sk P w x.dat cs) : ∃ a0 p0 a1 p1, cs = [.slice a0 x.structs.length p0, .slice a1 x.funcs.length p1] ∧ Sk P w (.list 2 (Sc.dats x.structs)) [.slice a0 x.structs.length p0] ∧ Sk P w (.list 5 (Fu.dats x.funcs)) [.slice a1 x.funcs.length p1] := by
  obtain ⟨structs, funcs⟩ := x
  rw [So.dat, Sk] at h
  rw [SkAgg] at h
  obtain ⟨c0, d0, rfl, h0, h⟩ := h
  have e0 := h0
  rw [Sk] at e0
  obtain ⟨a0, p0, rfl, _⟩ := e0
  rw [Sc.dats_len] at h0
  rw [SkAgg] at h
  obtain ⟨c1, d1, rfl, h1, h⟩ := h
  have e1 := h1
  rw [Sk] at e1
  obtain ⟨a1, p1, rfl, _⟩ := e1
  rw [Fu.dats_len] at h1
  rw [SkAgg] at h
  subst h
  exact ⟨_, _, _, _, by simp only [Fu.dats_len, Sc.dats_len]; rfl, h0, h1⟩
set_option maxHeartbeats 1000000 in
theorem markSo_sk {P : Nat → Prop} (x : So) (v0 v1 : Value) (k : Int) (w : World) (h0 : Sk P w (.list 2 (Sc.dats x.structs)) [v0]) (h1 : Sk P w (.list 5 (Fu.dats x.funcs)) [v1]) (h0' : 0 ≤ k) (h1' : k + 16 * x.sz ≤ 4611686018427387904) :
    Calls Tryz.prog 10 #[.agg #[v0, v1], .int .i64 k] w (MkQ P w k (16 * x.sz)) := by
  rw [So.szEq] at h1' ⊢
  obtain ⟨a0, p0, rfl, _⟩ := h0.lslice
  simp only [Sc.dats_len] at h0 ⊢
  obtain ⟨a1, p1, rfl, _⟩ := h1.lslice
  simp only [Fu.dats_len] at h1 ⊢
  have I0 : Inks P w (w.alloc (.cells #[.slice a0 x.structs.length p0, .slice a1 x.funcs.length p1] 33)) := Inks.later (later1 _ _)
  go_enter Tryz.func10, Tryz.ntmps10
  go_wp2_with fail
  refine (markScs_sk _ _ _ _ (h0.slice_inks I0) (by omega) (by omega)).mono ?_
  rintro e w1 ⟨k1, rfl, u1, t1, J1⟩
  have I1 := I0.trans J1
  have b1_1 : w1.cell? ⟨w.heap.size, 1, none⟩ = some (.slice a1 x.funcs.length p1) := J1.slice (by simp) (by simp)
  go_wp2_with fail
  refine (markFus_sk _ _ _ _ (h1.slice_inks I1) (by omega) (by omega)).mono ?_
  rintro e w2 ⟨k2, rfl, u2, t2, J2⟩
  have I2 := I1.trans J2
  go_wp2_with fail
  go_ret
  exact ⟨_, rfl, by omega, by omega, I2⟩

end Go.Proofs.YtbigjeejmacjcaaGreatDoor
/- Answers that are one row of numbers: read, kept, marked, held. -/
namespace Go.Proofs.YtbigjeejmacjcaaGreatDoor
open Go.RowKit

/-- A row of numbers that can be read. -/
def RdC (q : IntKind) (w : World) (v : Value) (zs : List Int) : Prop := ∃ a cap, v = .slice a zs.length cap ∧ zs.length ≤ 1048576 ∧ ∀ j, j < zs.length → ∃ g off, a = some ⟨g, off, none⟩ ∧ g < w.heap.size ∧ w.cell? ⟨g, off + j, none⟩ = some (.int q (zs.getD j 0))
theorem RdC.later {q : IntKind} {w w' : World} {v : Value} {zs : List Int} (h : RdC q w v zs) (hb : Later w w') : RdC q w' v zs := by
  obtain ⟨a, cap, rfl, hl, hc⟩ := h
  refine ⟨a, cap, rfl, hl, fun j hj => ?_⟩
  obtain ⟨g, off, rfl, hg, hv⟩ := hc j hj
  exact ⟨g, off, rfl, Nat.lt_of_lt_of_le hg hb.size, by rw [Below.cell hb (p := ⟨g, off + j, none⟩) hg]; exact hv⟩
/-- A row of numbers that lies in a block of its own, from base on. -/
def AnsK (q : IntKind) (base : Nat) (w : World) (v : Value) (zs : List Int) : Prop := ∃ a cap, v = .slice a zs.length cap ∧ zs.length ≤ 1048576 ∧ (0 < zs.length → ∃ g, a = some ⟨g, 0, none⟩ ∧ base ≤ g ∧ g < w.heap.size ∧ ∀ j, j < zs.length → w.cell? ⟨g, j, none⟩ = some (.int q (zs.getD j 0)) ∧ w.frozen? ⟨g, j, none⟩ = false)
theorem AnsK.rd {q : IntKind} {base : Nat} {w : World} {v : Value} {zs : List Int} (h : AnsK q base w v zs) : RdC q w v zs := by
  obtain ⟨a, cap, rfl, hl, hc⟩ := h
  refine ⟨a, cap, rfl, hl, fun j hj => ?_⟩
  obtain ⟨g, rfl, _, hg, hh⟩ := hc (by omega)
  exact ⟨g, 0, rfl, hg, by rw [Nat.zero_add]; exact (hh j hj).1⟩
theorem cell_block {w w' : World} {g : Nat} (h : w'.heap[g]? = w.heap[g]?) (o : Nat) : w'.cell? ⟨g, o, none⟩ = w.cell? ⟨g, o, none⟩ ∧ w'.frozen? ⟨g, o, none⟩ = w.frozen? ⟨g, o, none⟩ :=
  ⟨by unfold World.cell?; rw [show w'.heap[(⟨g, o, none⟩ : Addr).block]? = w.heap[(⟨g, o, none⟩ : Addr).block]? from h], by unfold World.frozen?; rw [show w'.heap[(⟨g, o, none⟩ : Addr).block]? = w.heap[(⟨g, o, none⟩ : Addr).block]? from h]⟩
theorem AnsK.keep {q : IntKind} {base : Nat} {w w' : World} {v : Value} {zs : List Int} (h : AnsK q base w v zs) (hs : w.heap.size ≤ w'.heap.size) (hb : ∀ b, base ≤ b → b < w.heap.size → w'.heap[b]? = w.heap[b]?) : AnsK q base w' v zs := by
  obtain ⟨a, cap, rfl, hl, hc⟩ := h
  refine ⟨a, cap, rfl, hl, fun h0 => ?_⟩
  obtain ⟨g, rfl, hg0, hg, hh⟩ := hc h0
  refine ⟨g, rfl, hg0, by omega, fun j hj => ?_⟩
  obtain ⟨e1, e2⟩ := cell_block (hb g hg0 hg) j
  rw [e1, e2]
  exact hh j hj
theorem AnsK.later {q : IntKind} {base : Nat} {w w' : World} {v : Value} {zs : List Int} (h : AnsK q base w v zs) (hl : Later w w') : AnsK q base w' v zs := h.keep hl.size (fun b _ hb => hl.block b hb)
theorem AnsK.mono {q : IntKind} {base base' : Nat} {w : World} {v : Value} {zs : List Int} (h : AnsK q base w v zs) (hb : base' ≤ base) : AnsK q base' w v zs := by
  obtain ⟨a, cap, rfl, hl, hc⟩ := h
  refine ⟨a, cap, rfl, hl, fun h0 => ?_⟩
  obtain ⟨g, rfl, hg0, hg, hh⟩ := hc h0
  exact ⟨g, rfl, by omega, hg, hh⟩
theorem AnsK.nil (q : IntKind) (base : Nat) (w : World) : AnsK q base w (.slice none 0 0) [] := ⟨none, 0, rfl, by decide, fun h => absurd h (by decide)⟩
theorem AnsK.of_row {q : IntKind} {base : Nat} {e : TypeId} {w : World} {v : Value} {zs : List Int} (o : w.ownsRow base e 1 v zs.length (zs.map (Value.int q))) (hl : zs.length ≤ 1048576) : AnsK q base w v zs := by
  rcases o.2 with ⟨rfl, h0⟩ | ⟨g, cap, cur, rfl, hb, hg, _⟩
  · exact ⟨none, 0, by rw [h0], hl, fun h => by omega⟩
  · refine ⟨_, cap, rfl, hl, fun _ => ⟨g, rfl, hb, (Array.getElem?_eq_some_iff.1 hg).1, fun j hj => ⟨?_, o.frozenAt j⟩⟩⟩
    rw [o.cellAt j (by omega), List.getElem?_map, List.getElem?_eq_getElem hj, List.getD_eq_getElem?_getD, List.getElem?_eq_getElem hj]
    rfl
theorem AnsK.shape {q : IntKind} {base : Nat} {w : World} {v : Value} {zs : List Int} (h : AnsK q base w v zs) : ∃ a M cap, v = .slice a M cap ∧ Hid (M = zs.length) := by
  obtain ⟨a, cap, rfl, _⟩ := h
  exact ⟨a, _, cap, rfl, rfl⟩
/-- The row, marked. -/
def MkdK (q : IntKind) (mv : Nat → Int) (base : Nat) (w : World) (v : Value) (n : Nat) : Prop := ∃ a cap, v = .slice a n cap ∧ n ≤ 1048576 ∧ (0 < n → ∃ g, a = some ⟨g, 0, none⟩ ∧ base ≤ g ∧ g < w.heap.size ∧ ∀ j, j < n → w.cell? ⟨g, j, none⟩ = some (.int q (mv j)))
theorem MkdK.keep {q : IntKind} {mv : Nat → Int} {base n : Nat} {w w' : World} {v : Value} (h : MkdK q mv base w v n) (hs : w.heap.size ≤ w'.heap.size) (hb : ∀ b, base ≤ b → b < w.heap.size → w'.heap[b]? = w.heap[b]?) : MkdK q mv base w' v n := by
  obtain ⟨a, cap, rfl, hl, hc⟩ := h
  refine ⟨a, cap, rfl, hl, fun h0 => ?_⟩
  obtain ⟨g, rfl, hg0, hg, hh⟩ := hc h0
  refine ⟨g, rfl, hg0, by omega, fun j hj => ?_⟩
  obtain ⟨e1, _⟩ := cell_block (hb g hg0 hg) j
  rw [e1]
  exact hh j hj
theorem MkdK.later {q : IntKind} {mv : Nat → Int} {base n : Nat} {w w' : World} {v : Value} (h : MkdK q mv base w v n) (hl : Later w w') : MkdK q mv base w' v n := h.keep hl.size (fun b _ hb => hl.block b hb)
/-- Ink in blocks of P leaves alone what lies below, and what lies elsewhere. -/
theorem Inks.below {P : Nat → Prop} {w w' : World} (h : Inks P w w') {B : Nat} (hP : ∀ b, P b → B ≤ b) (hB : B ≤ w.heap.size) : Below B w w' := ⟨h.os, h.tape, h.output, h.size, fun b hb => h.block b (by omega) (fun hp => by have := hP b hp; omega)⟩
theorem Below.cut {w w1 w2 : World} (h : Later w w1) (k : Below w.heap.size w1 w2) : Later w w2 := ⟨k.os.trans h.os, k.tape.trans h.tape, k.output.trans h.output, Nat.le_trans h.size k.size, fun b hb => by rw [k.block b hb, h.block b hb]⟩
theorem Below.less {A B : Nat} {w w' : World} (h : Below B w w') (hA : A ≤ B) : Below A w w' := ⟨h.os, h.tape, h.output, h.size, fun b hb => h.block b (by omega)⟩

def bmv (j : Nat) : Int := IntKind.u8.wrap (1 + (j : Int))
set_option maxHeartbeats 400000 in
theorem markb_zero (a : Option Addr) (cap : Nat) (k : Int) (w : World) : Calls Tryz.prog 11 #[.slice a 0 cap, .int .i64 k] w fun e w' => e = .returned (.int .i64 k) ∧ w' = w := by
  go_enter Tryz.func11, Tryz.ntmps11
  go_wp2_with fail
  go_loopw [1, 5] (fun kk i wr => kk = .int .i64 k ∧ i = .int .i64 0 ∧ wr = w) (fun _ _ _ => 0)
  case atStart => exact ⟨rfl, rfl, rfl⟩
  case round =>
    obtain ⟨rfl, rfl, rfl⟩ := hrel
    go_wp2_with fail
    go_ret
    exact ⟨rfl, rfl⟩
theorem markb_ans {base : Nat} {zs : List Int} {v : Value} {w : World} (h : AnsK .u8 base w v zs) : Calls Tryz.prog 11 #[v, .int .i64 1] w fun e w' => e = .returned (.int .i64 (1 + (zs.length : Int))) ∧ Below base w w' ∧ MkdK .u8 bmv base w' v zs.length := by
  obtain ⟨a, cap, rfl, hl, hc⟩ := h
  rcases Nat.eq_zero_or_pos zs.length with q | q
  · rw [q]
    refine (markb_zero a cap 1 w).mono ?_
    rintro e w' ⟨rfl, rfl⟩
    exact ⟨rfl, Below.refl _ _, a, cap, rfl, by decide, fun h => absurd h (by decide)⟩
  · obtain ⟨g, rfl, hb, hg, hh⟩ := hc q
    refine (markb_any g 0 cap zs.length 1 w (by decide) (by omega) (fun j hj => ⟨_, by rw [Nat.zero_add]; exact (hh j hj).1⟩) (fun j hj => by rw [Nat.zero_add]; exact (hh j hj).2)).mono ?_
    rintro e w' ⟨rfl, hw⟩
    refine ⟨rfl, hw.below (fun p hp => ?_), _, cap, rfl, hl, fun _ => ⟨g, rfl, hb, by rw [hw.size]; exact hg, fun j hj => ?_⟩⟩
    · obtain ⟨j, _, e, _⟩ := bmarks_mem hp
      rw [e]
      exact hb
    · have := hw.cell (⟨g, 0 + j, none⟩, .int .u8 (IntKind.u8.wrap (1 + (j : Int)))) (List.mem_map.2 ⟨j, List.mem_range.2 hj, rfl⟩)
      rw [Nat.zero_add] at this
      exact this
set_option maxHeartbeats 400000 in
theorem heldb_zero (a : Option Addr) (cap : Nat) (k : Int) (w : World) : Calls Tryz.prog 12 #[.slice a 0 cap, .int .i64 k] w fun e w' => e = .returned (.int .i64 k) ∧ w' = w := by
  go_enter Tryz.func12, Tryz.ntmps12
  go_wp2_with fail
  go_loopw [1, 5] (fun kk i wr => kk = .int .i64 k ∧ i = .int .i64 0 ∧ wr = w) (fun _ _ _ => 0)
  case atStart => exact ⟨rfl, rfl, rfl⟩
  case round =>
    obtain ⟨rfl, rfl, rfl⟩ := hrel
    go_wp2_with fail
    go_ret
    exact ⟨rfl, rfl⟩
theorem heldb_ans {base n : Nat} {v : Value} {w : World} (h : MkdK .u8 bmv base w v n) : Calls Tryz.prog 12 #[v, .int .i64 1] w fun e w' => e = .returned (.int .i64 (1 + (n : Int))) ∧ w' = w := by
  obtain ⟨a, cap, rfl, hl, hc⟩ := h
  rcases Nat.eq_zero_or_pos n with q | q
  · rw [q]
    exact heldb_zero a cap 1 w
  · obtain ⟨g, rfl, hb, hg, hh⟩ := hc q
    refine heldb_any g 0 cap n 1 w (by decide) (by omega) (fun p hp => ?_)
    obtain ⟨j, hj, e1, e2⟩ := bmarks_mem hp
    rw [e1, e2, Nat.zero_add]
    exact hh j hj
set_option maxHeartbeats 400000 in
theorem eqc_same {v1 v2 : Value} {zs : List Int} {w : World} (h1 : RdC .u8 w v1 zs) (h2 : RdC .u8 w v2 zs) :
    Calls Tryz.prog 8 #[v1, v2] w fun e w' => e = .returned (.bool true) ∧ Later w w' := by
  obtain ⟨a, cap, rfl, hl, hc⟩ := h1
  obtain ⟨a', cap', rfl, _, hc'⟩ := h2
  have hle : ((zs.length : Int) != (zs.length : Int)) = false := by simp
  go_enter Tryz.func8, Tryz.ntmps8
  go_wp2
  go_loopw [5] (fun i wr => ∃ (k n : Nat), i = .int .i64 (k : Int) ∧ k ≤ zs.length ∧ wr = w.drewN n) (fun i _ => zs.length - (intOf i).toNat)
  case atStart => exact ⟨0, 0, rfl, Nat.zero_le _, rfl⟩
  case round =>
    obtain ⟨k, n, rfl, hk, rfl⟩ := hrel
    by_cases hlt : k < zs.length
    · obtain ⟨g, off, rfl, _, hv⟩ := hc k hlt
      obtain ⟨g', off', rfl, _, hv'⟩ := hc' k (by omega)
      have i1 : (k : Int) < (zs.length : Int) := by omega
      generalize zs.getD k 0 = z at hv hv'
      have hne : (z != z) = false := by simp
      clear hc hc'
      go_wp2
      go_quiet (fail)
      go_wp2
      go_roundw
      case rel => exact ⟨k + 1, _, by go_num, by omega, rfl⟩
      case measure => simp [intOf]; omega
    · have hlt' : decide ((k : Int) < (zs.length : Int)) = false := by simp; omega
      go_wp2
      go_ret
      exact ⟨rfl, later_drewN (Later.refl _) _⟩

def imv (j : Nat) : Int := 1 + (j : Int)
end Go.Proofs.YtbigjeejmacjcaaGreatDoor
/- The law of Print, for every source, from what both sides answer. -/
namespace Go.Proofs.YtbigjeejmacjcaaGreatDoor
open Go.RowKit

/-- What both answer: the text, in memory of its own. -/
def PrAns (b : Bool) (out : List Int) (w : World) (e : Ending) (w' : World) : Prop := ∃ a M c, e = .returned (.tuple #[.slice a M c, .bool b]) ∧ Later w w' ∧ AnsK .u8 w.heap.size w' (.slice a M c) out ∧ Hid (M = out.length)
theorem bxcell {w w' : World} {g o : Nat} {u : Value} (h : w.cell? ⟨g, o, none⟩ = some u) (hg : g < w.heap.size) (l : Later w w') : w'.cell? ⟨g, o, none⟩ = some u := by rw [Below.cell l (p := ⟨g, o, none⟩) hg]; exact h
set_option maxRecDepth 20000 in
set_option maxHeartbeats 8000000 in
theorem lawprint_of (x : So) (ok : Bool) (out : List Int) (hol : out.length ≤ 6000) (v0 v1 : Value) (w : World)
    (hI : ∀ w', Later w w' → ∀ v0 v1, RdL w' 2 v0 (Sc.dats x.structs) → RdL w' 5 v1 (Fu.dats x.funcs) → Calls Tryz.prog 7 #[.agg #[v0, v1]] w' (PrAns ok out w'))
    (hS : ∀ w' v0 v1, RdL w' 2 v0 (Sc.dats x.structs) → RdL w' 5 v1 (Fu.dats x.funcs) → Calls Tryz.prog 5 #[.agg #[v0, v1]] w' (PrAns ok out w')) (h0 : RdL w 2 v0 (Sc.dats x.structs)) (h1 : RdL w 5 v1 (Fu.dats x.funcs)) :
    Calls Tryz.prog 3 #[.agg #[v0, v1]] w fun e w' => e = .returned (.bool true) ∧ Later w w' := by
  have hsz := fun w' (l : Later w w') => szSo_any x v0 v1 1048576 w' (RdL.later l h0) (RdL.later l h1) (by decide) (by decide)
  have hto := fun (hs : x.sz ≤ 1048576) w' (l : Later w w') => toSo_any x v0 v1 w' (RdL.later l h0) (RdL.later l h1) hs
  obtain ⟨a0, p0, rfl, _⟩ := Sc.slice h0
  obtain ⟨a1, p1, rfl, _⟩ := Fu.slice h1
  clear h0 h1
  by_cases hs : x.sz ≤ 1048576
  · have hs' : ((x.sz : Nat) : Int) ≤ 1048576 := by omega
    rw [szR_pos hs'] at hsz
    have hto' := hto hs
    have n0 : ¬ (1048576 : Int) - ((x.sz : Nat) : Int) < 0 := by omega
    have hbb : (ok != ok) = false := by simp
    clear hto
    go_enter Tryz.func3, Tryz.ntmps3
    go_wp2_with fail
    refine (hsz _ (later1 _ _)).mono ?_
    rintro e w1 ⟨rfl, l1⟩
    have L1 : Later w w1 := (later1 _ _).trans l1
    have y0 : w1.cell? ⟨w.heap.size, 0, none⟩ = some (.slice a0 x.structs.length p0) := by rw [Below.cell l1 (p := ⟨w.heap.size, 0, none⟩) (by simp)]; simp
    have y1 : w1.cell? ⟨w.heap.size, 1, none⟩ = some (.slice a1 x.funcs.length p1) := by rw [Below.cell l1 (p := ⟨w.heap.size, 1, none⟩) (by simp)]; simp
    have z1 : w.heap.size < w1.heap.size := by have := l1.size; simp at this; omega
    clear l1 hsz
    go_wp2_with fail
    refine (hto' _ L1).mono ?_
    rintro e w2 ⟨b0, q0, b1, q1, F2, rfl, O2, l2⟩
    obtain ⟨_, _, e2, r20, r21⟩ := So.view O2.rd
    cases e2
    have y0 := bxcell y0 z1 l2
    have y1 := bxcell y1 z1 l2
    have z2 : w.heap.size < w2.heap.size := by have := l2.size; omega
    have L2 := L1.trans l2
    clear l2 O2
    go_wp2_with fail
    refine (hS w2 _ _ r20 r21).mono ?_
    rintro e w3 ⟨a3, M3, c3, rfl, l3, A3, hM3⟩
    have y0 := bxcell y0 z2 l3
    have y1 := bxcell y1 z2 l3
    have z3 : w.heap.size < w3.heap.size := by have := l3.size; omega
    have L3 := L2.trans l3
    have R3 := A3.rd
    clear l3 r20 r21 hS A3
    go_wp2_with fail
    refine (hto' _ L3).mono ?_
    rintro e w4 ⟨b4, q4, b5, q5, F4, rfl, O4, l4⟩
    obtain ⟨_, _, e4, r40, r41⟩ := So.view O4.rd
    cases e4
    have hSk := O4.sk
    obtain ⟨_, _, _, _, e4', s40, s41⟩ := So.skView hSk
    simp only [List.cons.injEq, Value.slice.injEq, and_true, true_and] at e4'
    obtain ⟨⟨rfl, rfl⟩, rfl, rfl⟩ := e4'
    have y0 := bxcell y0 z3 l4
    have y1 := bxcell y1 z3 l4
    have z4 : w.heap.size < w4.heap.size := by have := l4.size; omega
    have s34 := l4.size
    have L4 := L3.trans l4
    have T4 := l4
    clear l4 O4 hSk
    go_wp2_with fail
    refine (hI _ (L4.trans (later1 _ _)) _ _ (RdL.later (later1 _ _) r40) (RdL.later (later1 _ _) r41)).mono ?_
    rintro e w5 ⟨a5, M5, c5, rfl, l5, A5, hM5⟩
    have M45 := (later1 w4 _).trans l5
    have L5 := L4.trans M45
    have T5 := T4.trans M45
    have y0 := bxcell y0 z4 M45
    have y1 := bxcell y1 z4 M45
    have x0 : w5.cell? ⟨w4.heap.size, 0, none⟩ = some (.slice b4 x.structs.length q4) := by rw [Below.cell l5 (p := ⟨w4.heap.size, 0, none⟩) (by simp)]; simp
    have x1 : w5.cell? ⟨w4.heap.size, 1, none⟩ = some (.slice b5 x.funcs.length q5) := by rw [Below.cell l5 (p := ⟨w4.heap.size, 1, none⟩) (by simp)]; simp
    have zz5 : w4.heap.size < w5.heap.size := by have := l5.size; simp at this; omega
    have z5 : w.heap.size < w5.heap.size := by omega
    have A5 : AnsK .u8 (w4.heap.size + 1) w5 (.slice a5 M5 c5) out := by simpa using A5
    clear l5
    go_wp2_with fail
    refine (eqc_same A5.rd (R3.later T5)).mono ?_
    rintro e w6 ⟨rfl, l6⟩
    have L6 := L5.trans l6
    have M46 := M45.trans l6
    have T6 := T5.trans l6
    have A6 := A5.later l6
    have y0 := bxcell y0 z5 l6
    have y1 := bxcell y1 z5 l6
    have x0 := bxcell x0 zz5 l6
    have x1 := bxcell x1 zz5 l6
    have zz6 : w4.heap.size < w6.heap.size := by have := l6.size; omega
    have z6 : w.heap.size < w6.heap.size := by omega
    clear l6 A5 L5 M45 T5
    have hE := fun w' v0 v1 (l : Later w6 w') (k0 : RdL w' 2 v0 (Sc.dats x.structs)) (k1 : RdL w' 5 v1 (Fu.dats x.funcs)) => eqSo_true x _ _ v0 v1 w' (RdL.later (M46.trans l) r40) (RdL.later (M46.trans l) r41) k0 k1
    have HS : Hid (∀ w', Later w6 w' → (Later w6 w' ∧ w'.cell? ⟨w.heap.size, 0, none⟩ = some (.slice a0 x.structs.length p0) ∧ w'.cell? ⟨w.heap.size, 1, none⟩ = some (.slice a1 x.funcs.length p1) ∧ w'.cell? ⟨w4.heap.size, 0, none⟩ = some (.slice b4 x.structs.length q4) ∧ w'.cell? ⟨w4.heap.size, 1, none⟩ = some (.slice b5 x.funcs.length q5))) := fun w' ll => ⟨ll, bxcell y0 z6 ll, bxcell y1 z6 ll, bxcell x0 zz6 ll, bxcell x1 zz6 ll⟩
    -- what comes behind the region, at any later world
    have HM : Hid (∀ w', Later w6 w' → Calls Tryz.prog 10 #[.agg #[.slice b4 x.structs.length q4, .slice b5 x.funcs.length q5], .int .i64 1] w' (MkQ (fun b => w3.heap.size ≤ b ∧ b < w4.heap.size) w' 1 (16 * x.sz))) := fun w' ll => markSo_sk x _ _ 1 w' (s40.slice_inks (Inks.later (M46.trans ll))) (s41.slice_inks (Inks.later (M46.trans ll))) (by decide) (by omega)
    clear r40 r41 s40 s41
    go_wp2_with fail
    go_region_held3 (fun w' => Later w6 w' ∧ w'.cell? ⟨w.heap.size, 0, none⟩ = some (.slice a0 x.structs.length p0) ∧ w'.cell? ⟨w.heap.size, 1, none⟩ = some (.slice a1 x.funcs.length p1) ∧ w'.cell? ⟨w4.heap.size, 0, none⟩ = some (.slice b4 x.structs.length q4) ∧ w'.cell? ⟨w4.heap.size, 1, none⟩ = some (.slice b5 x.funcs.length q5)) (first | exact HS.out _ (Later.drew _) | exact HS.out _ ((Later.drew _).trans l7) | exact HS.out _ (((Later.drew _).trans l7).trans l8)) (first | (go_at_call 6; refine (hto' _ (L6.trans (Later.drew _))).mono ?_; rintro e w7 ⟨b6, q6, b7, q7, F6, rfl, O6, l7⟩; obtain ⟨_, _, e6, r60, r61⟩ := So.view O6.rd; cases e6) | (go_at_call 9; refine (hE _ _ _ ((Later.drew _).trans l7) r60 r61).mono ?_; rintro e w8 ⟨rfl, l8⟩))
    all_goals
      have l68 := ((Later.drew _).trans l7).trans l8
      obtain ⟨_, y0, y1, x0, x1⟩ := HS.out _ l68
      have L8 := L6.trans l68
      have T8 := T6.trans l68
      have A8 := A6.later l68
      have HM8 := HM.out _ l68
      have z8 : w.heap.size < w8.heap.size := Nat.lt_of_lt_of_le z6 l68.size
      have s38 : w3.heap.size ≤ w8.heap.size := T8.size
      clear HS HM hE l68
      go_wp2_with fail
      refine HM8.mono ?_
      rintro e w9 ⟨k9, rfl, hk9, _, J9⟩
      have T9 : Later w3 w9 := Below.cut T8 (J9.below (fun b hb => hb.1) s38)
      have L9 := L3.trans T9
      have A9 : AnsK .u8 (w4.heap.size + 1) w9 (.slice a5 M5 c5) out := A8.keep J9.size (fun b hb hb' => J9.block b hb' (fun hp => by have := hp.2; omega))
      have y0 : w9.cell? ⟨w.heap.size, 0, none⟩ = some (.slice a0 x.structs.length p0) := J9.slice z8 y0
      have y1 : w9.cell? ⟨w.heap.size, 1, none⟩ = some (.slice a1 x.funcs.length p1) := J9.slice z8 y1
      have i9 : ¬ k9 < 0 := by omega
      have z9 : w.heap.size < w9.heap.size := Nat.lt_of_lt_of_le z8 J9.size
      have s49 : w3.heap.size ≤ w9.heap.size := T9.size
      clear J9 A8 HM8 T8 L8
      go_wp2_with fail
      refine (eqc_same A9.rd (R3.later T9)).mono ?_
      rintro e w10 ⟨rfl, l10⟩
      have A10 := A9.later l10
      have T10 := T9.trans l10
      have y0 := bxcell y0 z9 l10
      have y1 := bxcell y1 z9 l10
      have z10 : w.heap.size < w10.heap.size := Nat.lt_of_lt_of_le z9 l10.size
      clear l10 A9 T9
      go_wp2_with fail
      refine (markb_ans A10).mono ?_
      rintro e w11 ⟨rfl, B11, K11⟩
      have T11 : Later w3 w11 := Below.cut T10 (Below.less B11 (by omega))
      have L11 := L3.trans T11
      have y0 : w11.cell? ⟨w.heap.size, 0, none⟩ = some (.slice a0 x.structs.length p0) := by rw [Below.cell B11 (p := ⟨w.heap.size, 0, none⟩) (show w.heap.size < w4.heap.size + 1 by omega)]; exact y0
      have y1 : w11.cell? ⟨w.heap.size, 1, none⟩ = some (.slice a1 x.funcs.length p1) := by rw [Below.cell B11 (p := ⟨w.heap.size, 1, none⟩) (show w.heap.size < w4.heap.size + 1 by omega)]; exact y1
      have hml : out.length ≤ 6000 := hol
      rw [← hM5.out] at K11 hml
      rw [← hM5.out]
      clear A10 B11 T10
      have hm0 : ¬ 1 + (M5 : Int) < 0 := by omega
      have hmm : ((1 + (M5 : Int)) != (1 + (M5 : Int))) = false := by simp
      go_wp2_with fail
      refine (heldb_ans K11).mono ?_
      rintro e w11' ⟨rfl, hw⟩
      obtain rfl := hw.symm
      clear hw
      go_wp2_with fail
      refine (hto' _ L11).mono ?_
      rintro e w12 ⟨b8, q8, b9, q9, F12, rfl, O12, l12⟩
      obtain ⟨_, _, e12, r120, r121⟩ := So.view O12.rd
      cases e12
      have L12 := L11.trans l12
      have T12 := T11.trans l12
      have K12 := K11.later l12
      clear O12 l12 K11 T11
      go_wp2_with fail
      refine (hI _ L12 _ _ r120 r121).mono ?_
      rintro e w13 ⟨a13, M13, c13, rfl, l13, A13, hM13⟩
      have L13 := L12.trans l13
      have T13 := T12.trans l13
      have K13 := K12.later l13
      clear r120 r121 l13 K12 T12
      go_wp2_with fail
      refine (eqc_same A13.rd (R3.later T13)).mono ?_
      rintro e w14 ⟨rfl, l14⟩
      have K14 := K13.later l14
      have L14 := L13.trans l14
      clear A13 l14 T13 K13
      go_wp2_with fail
      refine (heldb_ans K14).mono ?_
      rintro e w14' ⟨rfl, hw⟩
      obtain rfl := hw.symm
      clear hw
      go_wp2_with fail
      go_ret
      exact ⟨rfl, L14⟩
  · have hs' : ¬ ((x.sz : Nat) : Int) ≤ 1048576 := by omega
    rw [szR_neg hs'] at hsz
    clear hto
    go_enter Tryz.func3, Tryz.ntmps3
    go_wp2_with fail
    refine (hsz _ (later1 _ _)).mono ?_
    rintro e w1 ⟨rfl, l1⟩
    go_wp2_with fail
    go_ret
    exact ⟨rfl, (later1 _ _).trans l1⟩

end Go.Proofs.YtbigjeejmacjcaaGreatDoor
