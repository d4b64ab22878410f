/- A walk in depth: what it has seen, in which order, and from where (plain mathematics). -/
import Derived.Test.YthammngddmkhhaaZ1
namespace Go.Proofs.Ythammngddmkhhaa

/-- What a visit of block b has done: nw are the new ones, each one ahead of those that it was reached from. -/
structure Vis (E : Nat → Nat → Prop) (n b : Nat) (s s' : Nat → Bool) (nw : List Nat) (e e' : Nat → Int) : Prop where
  grow : ∀ i, s i = true → s' i = true
  new : ∀ i, i ∈ nw ↔ (s' i = true ∧ s i = false)
  bound : ∀ i ∈ nw, i < n
  nodup : nw.Nodup
  last : ∃ l, nw = l ++ [b]
  rd : ∀ i ∈ nw, Rd E i
  closed : ∀ i ∈ nw, ∀ j, E i j → s' j = true
  par : ∀ i ∈ nw, i ≠ b → ∃ u : Nat, e' i = (u : Int) ∧ E u i ∧ ∃ l1 l2, nw = l1 ++ i :: l2 ∧ u ∈ l2
  keep : ∀ i, i ∉ nw ∨ i = b → e' i = e i
/-- A visit of b under way: what the edges so far have led to. -/
structure VisL (E : Nat → Nat → Prop) (n b : Nat) (s s' : Nat → Bool) (nw : List Nat) (e e' : Nat → Int) (D : Nat → Prop) : Prop where
  seen : s' b = true
  old : s b = false
  grow : ∀ i, s i = true → s' i = true
  new : ∀ i, i ∈ nw ↔ (s' i = true ∧ s i = false ∧ i ≠ b)
  bound : ∀ i ∈ nw, i < n
  nodup : nw.Nodup
  rd : ∀ i ∈ nw, Rd E i
  closed : ∀ i ∈ nw, ∀ j, E i j → s' j = true
  par : ∀ i ∈ nw, ∃ u : Nat, e' i = (u : Int) ∧ E u i ∧ (u = b ∨ ∃ l1 l2, nw = l1 ++ i :: l2 ∧ u ∈ l2)
  keep : ∀ i, i ∉ nw → e' i = e i
  done : ∀ j, D j → s' j = true
def setB (s : Nat → Bool) (t : Nat) : Nat → Bool := fun i => if i = t then true else s i
def setI (e : Nat → Int) (t : Nat) (v : Int) : Nat → Int := fun i => if i = t then v else e i
theorem VisL.start {E : Nat → Nat → Prop} {n b : Nat} {s : Nat → Bool} {e : Nat → Int} (hb : s b = false) : VisL E n b s (setB s b) [] e e (fun _ => False) where
  seen := if_pos rfl
  old := hb
  grow := fun i h => by unfold setB; split; rfl; exact h
  new := fun i => ⟨fun h => (by cases h), fun h => by
    have h1 := h.1
    unfold setB at h1
    rw [if_neg h.2.2, h.2.1] at h1
    cases h1⟩
  bound := fun i h => by cases h
  nodup := List.nodup_nil
  rd := fun i h => by cases h
  closed := fun i h => by cases h
  par := fun i h => by cases h
  keep := fun _ _ => rfl
  done := fun _ h => h.elim
/-- The next edge leads to one that is seen. -/
theorem VisL.skip {E : Nat → Nat → Prop} {n b : Nat} {s s' : Nat → Bool} {nw : List Nat} {e e' : Nat → Int} {D : Nat → Prop} (h : VisL E n b s s' nw e e' D) {t : Nat} (ht : s' t = true) : VisL E n b s s' nw e e' (fun j => D j ∨ j = t) :=
  { h with done := fun j hj => hj.elim (h.done j) (fun q => by rw [q]; exact ht) }
/-- The next edge leads to a new one, which is visited. -/
theorem VisL.go {E : Nat → Nat → Prop} {n b : Nat} {s s' s2 : Nat → Bool} {nw nw2 : List Nat} {e e' e2 : Nat → Int} {D : Nat → Prop} (h : VisL E n b s s' nw e e' D) {t : Nat} (ht : s' t = false) (hE : E b t) (v : Vis E n t s' s2 nw2 (setI e' t b) e2) : VisL E n b s s2 (nw ++ nw2) e e2 (fun j => D j ∨ j = t) := by
  obtain ⟨l0, hl0⟩ := v.last
  have htm : t ∈ nw2 := by rw [hl0]; simp
  have hbt : b ≠ t := fun q => by rw [← q, h.seen] at ht; cases ht
  have hold : ∀ i ∈ nw, i ∉ nw2 := fun i hi q => by
    have := (h.new i).1 hi
    have := (v.new i).1 q
    simp_all
  have hnt : ∀ i ∈ nw, i ≠ t := fun i hi q => by
    have := (h.new i).1 hi
    rw [q, ht] at this
    cases this.1
  refine ⟨v.grow _ h.seen, h.old, fun i hi => v.grow _ (h.grow i hi), fun i => ?_, fun i hi => ?_, ?_, fun i hi => ?_, fun i hi j hj => ?_, fun i hi => ?_, fun i hi => ?_, fun j hj => ?_⟩
  · rw [List.mem_append, h.new, v.new]
    constructor
    · rintro (⟨h1, h2, h3⟩ | ⟨h1, h2⟩)
      · exact ⟨v.grow _ h1, h2, h3⟩
      · refine ⟨h1, ?_, fun q => ?_⟩
        · cases q : s i
          · rfl
          · rw [h.grow i q] at h2; cases h2
        · rw [q, h.seen] at h2; cases h2
    · rintro ⟨h1, h2, h3⟩
      cases q : s' i
      · exact .inr ⟨h1, rfl⟩
      · exact .inl ⟨rfl, h2, h3⟩
  · rcases List.mem_append.1 hi with hi | hi
    · exact h.bound i hi
    · exact v.bound i hi
  · exact List.nodup_append.2 ⟨h.nodup, v.nodup, fun a ha c hc q => hold a ha (by rw [q]; exact hc)⟩
  · rcases List.mem_append.1 hi with hi | hi
    · exact h.rd i hi
    · exact v.rd i hi
  · rcases List.mem_append.1 hi with hi | hi
    · exact v.grow _ (h.closed i hi j hj)
    · exact v.closed i hi j hj
  · rcases List.mem_append.1 hi with hi | hi
    · obtain ⟨u, hu, hE', hc⟩ := h.par i hi
      refine ⟨u, ?_, hE', ?_⟩
      · rw [v.keep i (.inl (hold i hi))]
        unfold setI
        rw [if_neg (hnt i hi)]
        exact hu
      · rcases hc with hc | ⟨l1, l2, hc, hm⟩
        · exact .inl hc
        · exact .inr ⟨l1, l2 ++ nw2, by rw [hc]; simp, List.mem_append_left _ hm⟩
    · by_cases q : i = t
      · subst q
        refine ⟨b, ?_, hE, .inl rfl⟩
        rw [v.keep i (.inr rfl)]
        exact if_pos rfl
      · obtain ⟨u, hu, hE', l1, l2, hc, hm⟩ := v.par i hi q
        exact ⟨u, hu, hE', .inr ⟨nw ++ l1, l2, by rw [hc]; simp, hm⟩⟩
  · have h1 : i ∉ nw := fun q => hi (List.mem_append_left _ q)
    have h2 : i ∉ nw2 := fun q => hi (List.mem_append_right _ q)
    rw [v.keep i (.inl h2)]
    unfold setI
    rw [if_neg (fun q => h2 (by rw [q]; exact htm))]
    exact h.keep i h1
  · rcases hj with hj | hj
    · exact v.grow _ (h.done j hj)
    · rw [hj]
      exact ((v.new t).1 htm).1
/-- The visit ends. -/
theorem VisL.finish {E : Nat → Nat → Prop} {n b : Nat} {s s' : Nat → Bool} {nw : List Nat} {e e' : Nat → Int} {D : Nat → Prop} (h : VisL E n b s s' nw e e' D) (hb : b < n) (hr : Rd E b) (hD : ∀ j, E b j → D j) : Vis E n b s s' (nw ++ [b]) e e' := by
  have hbn : b ∉ nw := fun q => ((h.new b).1 q).2.2 rfl
  refine ⟨h.grow, fun i => ?_, fun i hi => ?_, ?_, ⟨nw, rfl⟩, fun i hi => ?_, fun i hi j hj => ?_, fun i hi hne => ?_, fun i hi => ?_⟩
  · rw [List.mem_append, h.new, List.mem_singleton]
    constructor
    · rintro (⟨h1, h2, _⟩ | rfl)
      · exact ⟨h1, h2⟩
      · exact ⟨h.seen, h.old⟩
    · rintro ⟨h1, h2⟩
      by_cases q : i = b
      · exact .inr q
      · exact .inl ⟨h1, h2, q⟩
  · rcases List.mem_append.1 hi with hi | hi
    · exact h.bound i hi
    · rw [List.mem_singleton.1 hi]; exact hb
  · exact List.nodup_append.2 ⟨h.nodup, by simp, fun a ha c hc q => hbn (by rw [← List.mem_singleton.1 hc, ← q]; exact ha)⟩
  · rcases List.mem_append.1 hi with hi | hi
    · exact h.rd i hi
    · rw [List.mem_singleton.1 hi]; exact hr
  · rcases List.mem_append.1 hi with hi | hi
    · exact h.closed i hi j hj
    · rw [List.mem_singleton.1 hi] at hj
      exact h.done j (hD j hj)
  · rcases List.mem_append.1 hi with hi | hi
    · obtain ⟨u, hu, hE', hc⟩ := h.par i hi
      refine ⟨u, hu, hE', ?_⟩
      rcases hc with hub | ⟨l1, l2, hc, hm⟩
      · obtain ⟨l1, l2, hl⟩ := List.append_of_mem hi
        exact ⟨l1, l2 ++ [b], by rw [hl]; simp, by rw [hub]; simp⟩
      · exact ⟨l1, l2 ++ [b], by rw [hc]; simp, List.mem_append_left _ hm⟩
    · exact absurd (List.mem_singleton.1 hi) hne
  · refine h.keep i (fun q => ?_)
    rcases hi with hi | hi
    · exact hi (List.mem_append_left _ q)
    · rw [hi] at q; exact hbn q
/-- From nothing seen: those that are reached are seen, in an order in which each one comes ahead of the one that it was reached from. -/
theorem Vis.reached {E : Nat → Nat → Prop} {n : Nat} {s' : Nat → Bool} {nw : List Nat} {e e' : Nat → Int} (v : Vis E n 0 (fun _ => false) s' nw e e') (i : Nat) : i ∈ nw ↔ Rd E i := by
  refine ⟨v.rd i, fun h => ?_⟩
  have hs : s' i = true := by
    unfold Rd at h
    induction h with
    | zero _ =>
      obtain ⟨l, hl⟩ := v.last
      exact ((v.new 0).1 (by rw [hl]; simp)).1
    | step _ hE _ ih => exact v.closed _ ((v.new _).2 ⟨ih, rfl⟩) _ hE
  exact (v.new i).2 ⟨hs, rfl⟩
/-- Ranks: the places in the order turned round. -/
def Ranks (od : List Nat) (rk : Nat → Nat) : Prop := ∀ r (h : r < od.length), rk od[r] = r
theorem Vis.tree {E : Nat → Nat → Prop} {n : Nat} {s' : Nat → Bool} {nw : List Nat} {e e' : Nat → Int} (v : Vis E n 0 (fun _ => false) s' nw e e') {rk : Nat → Nat} (hrk : Ranks nw.reverse rk) : Tree E (fun i => (e' i).toNat) rk where
  par := fun b hb hz => by
    obtain ⟨u, hu, hE, l1, l2, hl, hm⟩ := v.par b ((v.reached b).2 hb) hz
    refine ⟨?_, ?_⟩
    · show Rd E (e' b).toNat
      rw [hu, Int.toNat_natCast]
      exact v.rd u (by rw [hl]; exact List.mem_append_right _ (List.mem_cons_of_mem _ hm))
    · show rk (e' b).toNat < rk b
      rw [hu, Int.toNat_natCast]
      have hrev : nw.reverse = l2.reverse ++ b :: l1.reverse := by rw [hl]; simp
      unfold Ranks at hrk
      rw [hrev] at hrk
      obtain ⟨q, hq, rfl⟩ := List.getElem_of_mem (List.mem_reverse.2 hm)
      have h1 := hrk q (by rw [List.length_append]; omega)
      rw [List.getElem_append_left hq] at h1
      have h2 := hrk l2.reverse.length (by simp)
      rw [List.getElem_append_right (Nat.le_refl _)] at h2
      simp only [Nat.sub_self, List.getElem_cons_zero] at h2
      omega
  loc := fun b d hb hz h hd => by
    obtain ⟨u, hu, hE, l1, l2, hl, hm⟩ := v.par b ((v.reached b).2 hb) hz
    show Dm E d (e' b).toNat
    rw [hu, Int.toNat_natCast]
    exact Dm.edge hE (v.rd u (by rw [hl]; exact List.mem_append_right _ (List.mem_cons_of_mem _ hm))) h hd
  inj := fun a b ha hb h => by
    obtain ⟨q, hq, e1⟩ := List.getElem_of_mem (List.mem_reverse.2 ((v.reached a).2 ha))
    obtain ⟨r, hr, e2⟩ := List.getElem_of_mem (List.mem_reverse.2 ((v.reached b).2 hb))
    have h1 := hrk q hq
    have h2 := hrk r hr
    rw [e1] at h1
    rw [e2] at h2
    have : q = r := by omega
    subst this
    rw [← e1, e2]
end Go.Proofs.Ythammngddmkhhaa
