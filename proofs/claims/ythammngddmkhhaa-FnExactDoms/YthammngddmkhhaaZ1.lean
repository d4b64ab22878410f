/- Ways: who is on all ways to whom (plain mathematics). -/
import Derived.Test.YthammngddmkhhaaY2
namespace Go.Proofs.Ythammngddmkhhaa

/-- Reached from 0 by the edges E, without what is left out. -/
inductive Rc (E : Nat → Nat → Prop) (av : Nat → Prop) : Nat → Prop
  | zero : ¬ av 0 → Rc E av 0
  | step {a b : Nat} : Rc E av a → E a b → ¬ av b → Rc E av b
/-- Reached. -/
def Rd (E : Nat → Nat → Prop) (b : Nat) : Prop := Rc E (fun _ => False) b
/-- Reached without d. -/
def Rw (E : Nat → Nat → Prop) (d b : Nat) : Prop := Rc E (fun x => x = d) b
/-- d is on all ways to b. -/
def Dm (E : Nat → Nat → Prop) (d b : Nat) : Prop := Rd E b ∧ ¬ Rw E d b
theorem Rc.not {E : Nat → Nat → Prop} {av : Nat → Prop} {b : Nat} (h : Rc E av b) : ¬ av b := by
  cases h with
  | zero h => exact h
  | step _ _ h => exact h
theorem Rc.mono {E : Nat → Nat → Prop} {av av' : Nat → Prop} (hm : ∀ x, av' x → av x) {b : Nat} (h : Rc E av b) : Rc E av' b := by
  induction h with
  | zero h => exact .zero (fun q => h (hm _ q))
  | step _ e h ih => exact .step ih e (fun q => h (hm _ q))
theorem Rw.rd {E : Nat → Nat → Prop} {d b : Nat} (h : Rw E d b) : Rd E b := Rc.mono (fun _ (q : False) => q.elim) (show Rc E (fun x => x = d) b from h)
theorem Rd.zero (E : Nat → Nat → Prop) : Rd E 0 := Rc.zero (fun q => q)
theorem Rd.step {E : Nat → Nat → Prop} {a b : Nat} (h : Rd E a) (e : E a b) : Rd E b := Rc.step h e (fun q => q)
theorem Dm.refl {E : Nat → Nat → Prop} {b : Nat} (h : Rd E b) : Dm E b b := ⟨h, fun q => Rc.not q rfl⟩
theorem Dm.edge {E : Nat → Nat → Prop} {a b d : Nat} (e : E a b) (ha : Rd E a) (h : Dm E d b) (hd : d ≠ b) : Dm E d a := ⟨ha, fun q => h.2 (Rc.step q e (fun e => hd e.symm))⟩
theorem Dm.zero {E : Nat → Nat → Prop} {d : Nat} (h : Dm E d 0) : d = 0 := by
  rcases Nat.eq_zero_or_pos d with q | q
  · exact q
  · exact absurd (Rc.zero (show ¬ (0 : Nat) = d by omega)) h.2
/-- A way there goes by e, or there is one without it. -/
theorem Rc.by {E : Nat → Nat → Prop} {av : Nat → Prop} (e : Nat) {b : Nat} (h : Rc E av b) : Rc E av e ∨ Rw E e b := by
  induction h with
  | zero h =>
    by_cases q : (0 : Nat) = e
    · subst q; exact .inl (.zero h)
    · exact .inr (.zero q)
  | @step a b ha hE h ih =>
    rcases ih with ih | ih
    · exact .inl ih
    · by_cases q : b = e
      · subst q; exact .inl (.step ha hE h)
      · exact .inr (.step ih hE q)
theorem Dm.trans {E : Nat → Nat → Prop} {d e b : Nat} (h : Dm E d e) (k : Dm E e b) : Dm E d b := ⟨k.1, fun q => by
  rcases Rc.by e q with r | r
  · exact h.2 r
  · exact k.2 r⟩
theorem Dm.rd {E : Nat → Nat → Prop} {d b : Nat} (h : Dm E d b) : Rd E d := by
  rcases Rc.by d h.1 with r | r
  · exact r
  · exact absurd r h.2
theorem Rc.first {E : Nat → Nat → Prop} {d m : Nat} (hdm : d ≠ m) {x : Nat} (h : Rd E x) : Rc E (fun y => y = d ∨ y = m) x ∨ Rw E m d ∨ Rw E d m := by
  unfold Rd at h
  induction h with
  | zero _ =>
    by_cases q : (0 : Nat) = d
    · subst q; exact .inr (.inl (.zero hdm))
    · by_cases r : (0 : Nat) = m
      · subst r; exact .inr (.inr (.zero q))
      · exact .inl (.zero (fun s => s.elim q r))
  | @step a b _ hE _ ih =>
    rcases ih with ih | ih
    · by_cases q : b = d
      · subst q
        exact .inr (.inl (.step (Rc.mono (fun _ s => .inr s) ih) hE hdm))
      · by_cases r : b = m
        · subst r
          exact .inr (.inr (.step (Rc.mono (fun _ s => .inl s) ih) hE q))
        · exact .inl (.step ih hE (fun s => s.elim q r))
    · exact .inr ih
theorem Dm.antisymm {E : Nat → Nat → Prop} {d m : Nat} (h : Dm E d m) (k : Dm E m d) : d = m := by
  by_cases q : d = m
  · exact q
  · rcases Rc.first q h.1 with r | r | r
    · exact absurd (.inr rfl) (Rc.not r)
    · exact absurd r k.2
    · exact absurd r h.2
/-- m is the nearest other one on all ways to b. -/
def Near (E : Nat → Nat → Prop) (m b : Nat) : Prop := Dm E m b ∧ m ≠ b ∧ ∀ d, Dm E d b → d ≠ b → Dm E d m
theorem Near.unique {E : Nat → Nat → Prop} {m m' b : Nat} (h : Near E m b) (k : Near E m' b) : m = m' := Dm.antisymm (k.2.2 m h.1 h.2.1) (h.2.2 m' k.1 k.2.1)

/-- Who is over whom by p. -/
inductive An (p : Nat → Nat) : Nat → Nat → Prop
  | refl (b : Nat) : An p b b
  | up {a b : Nat} : b ≠ 0 → An p a (p b) → An p a b
theorem An.trans {p : Nat → Nat} {a b c : Nat} (h : An p a b) (k : An p b c) : An p a c := by
  induction k with
  | refl => exact h
  | up hb _ ih => exact .up hb ih
/-- Ways up: each one reached has one over it, of a lower rank, and on all ways to that one are those on all ways to it. -/
structure Tree (E : Nat → Nat → Prop) (p rk : Nat → Nat) : Prop where
  par : ∀ b, Rd E b → b ≠ 0 → Rd E (p b) ∧ rk (p b) < rk b
  loc : ∀ b d, Rd E b → b ≠ 0 → Dm E d b → d ≠ b → Dm E d (p b)
  inj : ∀ a b, Rd E a → Rd E b → rk a = rk b → a = b
theorem Tree.an_rk {E : Nat → Nat → Prop} {p rk : Nat → Nat} (t : Tree E p rk) {a b : Nat} (h : An p a b) : Rd E b → Rd E a ∧ rk a ≤ rk b := by
  induction h with
  | refl => exact fun h => ⟨h, Nat.le_refl _⟩
  | up hb _ ih =>
    intro h
    obtain ⟨h1, h2⟩ := t.par _ h hb
    obtain ⟨h3, h4⟩ := ih h1
    exact ⟨h3, by omega⟩
theorem Tree.an {E : Nat → Nat → Prop} {p rk : Nat → Nat} (t : Tree E p rk) {d : Nat} : ∀ (r b : Nat), rk b ≤ r → Dm E d b → An p d b := by
  intro r
  induction r using Nat.strongRecOn with
  | _ r ih =>
  intro b hr h
  by_cases q : d = b
  · subst q; exact .refl _
  · by_cases z : b = 0
    · subst z; exact absurd h.zero q
    · have hp := t.par b h.1 z
      have hl := t.loc b d h.1 z h q
      exact .up z (ih (rk (p b)) (by omega) (p b) (Nat.le_refl _) hl)
theorem Tree.zero {E : Nat → Nat → Prop} {p rk : Nat → Nat} (t : Tree E p rk) : ∀ (r b : Nat), rk b ≤ r → Rd E b → rk 0 ≤ rk b := by
  intro r
  induction r using Nat.strongRecOn with
  | _ r ih =>
  intro b hr h
  by_cases z : b = 0
  · subst z; exact Nat.le_refl _
  · have hp := t.par b h z
    have := ih (rk (p b)) (by omega) (p b) (Nat.le_refl _) hp.1
    omega
/-- One step on the way to where two meet. -/
theorem Tree.meet {E : Nat → Nat → Prop} {p rk : Nat → Nat} (t : Tree E p rk) {a b : Nat} (ha : Rd E a) (hb : Rd E b) (hr : rk b < rk a) : a ≠ 0 ∧ ∀ d, Dm E d a → Dm E d b → Dm E d (p a) := by
  have hz : a ≠ 0 := fun e => by subst e; have := t.zero _ b (Nat.le_refl _) hb; omega
  refine ⟨hz, fun d h1 h2 => t.loc a d ha hz h1 (fun e => ?_)⟩
  subst e
  have := (t.an_rk (t.an _ b (Nat.le_refl _) h2) hb).2
  omega
/-- One is moved up. -/
def upd (p : Nat → Nat) (e u : Nat) : Nat → Nat := fun b => if b = e then u else p b
theorem Tree.upd {E : Nat → Nat → Prop} {p rk : Nat → Nat} (t : Tree E p rk) {b e u : Nat} (hb : Rd E b) (he : E b e) (hu : Rd E u) (hr : rk u ≤ rk (p e)) (hm : ∀ d, Dm E d (p e) → Dm E d b → Dm E d u) : Tree E (upd p e u) rk where
  par := fun x hx hz => by
    unfold Go.Proofs.Ythammngddmkhhaa.upd
    by_cases q : x = e
    · subst q
      rw [if_pos rfl]
      have := t.par x hx hz
      exact ⟨hu, by omega⟩
    · rw [if_neg q]
      exact t.par x hx hz
  loc := fun x d hx hz h hd => by
    unfold Go.Proofs.Ythammngddmkhhaa.upd
    by_cases q : x = e
    · subst q
      rw [if_pos rfl]
      exact hm d (t.loc x d hx hz h hd) (Dm.edge he hb h hd)
    · rw [if_neg q]
      exact t.loc x d hx hz h hd
  inj := t.inj
/-- Where no edge leads past what is nearest, it is nearest. -/
theorem Tree.done {E : Nat → Nat → Prop} {p rk : Nat → Nat} (t : Tree E p rk) (f : ∀ a b, Rd E a → E a b → b ≠ 0 → An p (p b) a) {b : Nat} (hb : Rd E b) (hz : b ≠ 0) : Near E (p b) b := by
  have hno : ∀ d x, Rw E d x → ¬ An p d x := by
    intro d x h
    induction h with
    | zero h =>
      intro q
      cases q with
      | refl => exact h rfl
      | up hz _ => exact hz rfl
    | @step a x ha hE h ih =>
      intro q
      cases q with
      | refl => exact h rfl
      | up hz q => exact ih (q.trans (f a x (Rw.rd ha) hE hz))
  have hp := t.par b hb hz
  refine ⟨⟨hb, fun q => hno _ _ q (.up hz (.refl _))⟩, fun e => ?_, fun d h hd => t.loc b d hb hz h hd⟩
  have := hp.2
  rw [e] at this
  omega

/-- How many of l are such. -/
theorem count_lt {α : Type} [DecidableEq α] {p q : α → Bool} : ∀ (l : List α), (∀ x ∈ l, p x = true → q x = true) → ∀ y ∈ l, p y = false → q y = true → l.countP p < l.countP q
  | [], _, y, hy, _, _ => by cases hy
  | z :: r, h, y, hy, h1, h2 => by
    have hle : r.countP p ≤ r.countP q := List.countP_mono_left (fun x hx => h x (List.mem_cons_of_mem _ hx))
    rw [List.countP_cons, List.countP_cons]
    rcases List.mem_cons.1 hy with e | e
    · subst e
      rw [h1, h2]
      simp
      omega
    · have ih := count_lt r (fun x hx => h x (List.mem_cons_of_mem _ hx)) y e h1 h2
      have hz := h z (List.mem_cons_self ..)
      cases hp : p z
      · simp
        omega
      · rw [hz hp]
        simp
        omega

/-- What Doms answers of n blocks with these edges. -/
structure IsDoms (E : Nat → Nat → Prop) (n : Nat) (zs : List Int) : Prop where
  len : zs.length = n
  yes : ∀ b, b < n → Rd E b → b ≠ 0 → ∃ m : Nat, zs.getD b 0 = (m : Int) ∧ Near E m b
  no : ∀ b, b < n → ¬ (Rd E b ∧ b ≠ 0) → zs.getD b 0 = -1
theorem IsDoms.unique {E : Nat → Nat → Prop} {n : Nat} {xs ys : List Int} (h : IsDoms E n xs) (k : IsDoms E n ys) : xs = ys := by
  refine eq_of_getD (h.len.trans k.len.symm) (fun b hb => ?_)
  rw [h.len] at hb
  by_cases q : Rd E b ∧ b ≠ 0
  · obtain ⟨m, e, hm⟩ := h.yes b hb q.1 q.2
    obtain ⟨m', e', hm'⟩ := k.yes b hb q.1 q.2
    rw [e, e', hm.unique hm']
  · rw [h.no b hb q, k.no b hb q]

/-- The edges of a function. -/
def Fc.E (x : Fc) (a b : Nat) : Prop := ∃ (h : a < x.blocks.length), ∃ e ∈ x.blocks[a].out, e.to = (b : Int)
/-- All edges lead to blocks. -/
def Fc.lead (x : Fc) : Prop := ∀ (a : Nat) (h : a < x.blocks.length), ∀ e ∈ x.blocks[a].out, 0 ≤ e.to ∧ e.to < x.blocks.length
theorem Fc.E_lt {x : Fc} (h : x.lead) {a b : Nat} (e : x.E a b) : b < x.blocks.length := by
  obtain ⟨ha, d, hd, e⟩ := e
  have := h a ha d hd
  omega
theorem Fc.Rd_lt {x : Fc} (h : x.lead) (h0 : 0 < x.blocks.length) {b : Nat} (r : Rd x.E b) : b < x.blocks.length := by
  unfold Rd at r
  cases r with
  | zero _ => exact h0
  | step _ e _ => exact Fc.E_lt h e
end Go.Proofs.Ythammngddmkhhaa
