/- Tokens under way whose texts lie in rows of their own: they own their memory. -/
import Derived.Test.YtleakieppapjmaaDoorK11
namespace Go.Proofs.YtleakieppapjmaaDoor.KL
open Go.RowKit

structure OutO (base : Nat) (w : World) (v : Value) (ps : List (Tok × Value)) : Prop where
  ok : OutOK base w v ps
  apart : ps.Pairwise fun a b => ∀ g, a.2.ownBlock = some g → b.2.ownBlock ≠ some g
theorem OutO.nil (base : Nat) (w : World) : OutO base w (.slice none 0 0) [] := ⟨OutOK.nil _ _, List.Pairwise.nil⟩
theorem OutO.later {base : Nat} {w w' : World} {v : Value} {ps : List (Tok × Value)} (h : OutO base w v ps) (hl : Later w w') : OutO base w' v ps := ⟨h.ok.later hl, h.apart⟩
theorem OutO.push {base : Nat} {w w' : World} {v v' : Value} {ps : List (Tok × Value)} (h : OutO base w v ps) (t : Tok) (tv : Value) (ht : w.ownsRow base 5 1 tv t.2.2.2.length (t.2.2.2.map (Value.int .u8))) (hb : ∀ j, isB (t.2.2.2.getD j 0)) (hl : t.2.2.2.length ≤ 6000)
    (hf : ∀ p ∈ ps, ∀ g, p.2.ownBlock = some g → tv.ownBlock ≠ some g)
    (ho : w'.ownsRow base 34 4 v' (ps.length + 1) (flatT ps ++ [.int .i64 t.1, .int .i64 t.2.1, .int .i64 t.2.2.1, tv])) (hg : w.grownBy w' v.ownBlock) : OutO base w' v' (ps ++ [(t, tv)]) := by
  refine ⟨h.ok.push t tv ht hb hl ho hg, ?_⟩
  rw [List.pairwise_append]
  refine ⟨h.apart, List.pairwise_singleton _ _, fun a ha b hb' g hg' => ?_⟩
  rw [List.mem_singleton.1 hb']
  exact hf a ha g hg'

/-- Where a token's text lies. -/
def layOf (p : Tok × Value) : Lay := ((match p.2.ownBlock with | some g => g | none => 0), 0, p.1.2.2.2.length)
theorem lay_map {ps : List (Tok × Value)} {i : Nat} (h : i < ps.length) : lay (ps.map layOf) i = layOf ps[i] := by
  unfold lay
  rw [List.getD_eq_getElem?_getD, List.getElem?_map, List.getElem?_eq_getElem h]
  rfl
/-- A text's row. -/
theorem text_form {w : World} {base n : Nat} {v : Value} {zs : List Int} (h : w.ownsRow base 5 1 v n (zs.map (Value.int .u8))) : ∃ ta tc, v = .slice ta n tc ∧ (0 < n → ∃ g, v.ownBlock = some g ∧ ta = some ⟨g, 0, none⟩) := by
  rcases h.2 with ⟨rfl, h0⟩ | ⟨g, cap, _, rfl, _⟩
  · exact ⟨none, 0, by rw [h0], fun hn => by omega⟩
  · exact ⟨_, _, rfl, fun _ => ⟨g, rfl, rfl⟩⟩
theorem tmark1_mem {g : Nat} {k : Int} {i : Nat} {l : Lay} {p : Addr × Value} (h : p ∈ tmark1 g 0 k i l) : (∃ c, c < 3 ∧ p.1 = ⟨g, i * 4 + c, none⟩) ∨ ∃ j, j < l.2.2 ∧ p.1 = ⟨l.1, l.2.1 + j, none⟩ := by
  unfold tmark1 at h
  rcases List.mem_append.1 h with h | h
  · left
    simp only [List.mem_cons, List.not_mem_nil, or_false] at h
    rcases h with rfl | rfl | rfl
    · exact ⟨0, by decide, by rw [Nat.zero_add, Nat.add_zero]⟩
    · exact ⟨1, by decide, by rw [Nat.zero_add]⟩
    · exact ⟨2, by decide, by rw [Nat.zero_add]⟩
  · right
    obtain ⟨j, hj, e, _⟩ := bmarks_mem h
    exact ⟨j, hj, e⟩

theorem tlen_le {ps : List (Tok × Value)} (h : ∀ p ∈ ps, p.1.2.2.2.length ≤ 6000) : tlen (ps.map layOf) ≤ (ps.length : Int) * 6003 := by
  induction ps with
  | nil => simp [tlen]
  | cons p r ih =>
    have h1 := h p (List.mem_cons_self ..)
    have h2 := ih (fun q hq => h q (List.mem_cons_of_mem _ hq))
    simp only [List.map_cons, tlen, layOf, List.length_cons]
    omega
/-- A text's letters, by its place. -/
theorem text_cell {w : World} {base : Nat} {p : Tok × Value} (h : w.ownsRow base 5 1 p.2 p.1.2.2.2.length (p.1.2.2.2.map (Value.int .u8))) {i : Nat} (hi : i < p.1.2.2.2.length) : w.cell? ⟨(layOf p).1, (layOf p).2.1 + i, none⟩ = some (.int .u8 (p.1.2.2.2.getD i 0)) ∧ w.frozen? ⟨(layOf p).1, (layOf p).2.1 + i, none⟩ = false ∧ base ≤ (layOf p).1 ∧ p.2.ownBlock = some (layOf p).1 := by
  obtain ⟨t, v⟩ := p
  rcases h.2 with ⟨_, h0⟩ | ⟨g, cap, cur, hv, hb, _⟩
  · simp only at h0 hi; omega
  · simp only at hv hi h ⊢
    subst hv
    have e : (layOf (t, Value.slice (some ⟨g, 0, none⟩) t.2.2.2.length cap)).1 = g := rfl
    have e2 : (layOf (t, Value.slice (some ⟨g, 0, none⟩) t.2.2.2.length cap)).2.1 = 0 := rfl
    rw [e, e2, Nat.zero_add]
    refine ⟨?_, h.frozenAt i, hb, rfl⟩
    rw [h.cellAt i (by omega), List.getElem?_map, List.getElem?_eq_getElem hi, List.getD_eq_getElem?_getD, List.getElem?_eq_getElem hi]
    rfl
theorem addr_ne_block {a b c d : Nat} (h : a ≠ b) : (⟨a, c, none⟩ : Addr) ≠ ⟨b, d, none⟩ := fun e => h (congrArg Addr.block e)
theorem addr_ne_off {a c d : Nat} (h : c ≠ d) : (⟨a, c, none⟩ : Addr) ≠ ⟨a, d, none⟩ := fun e => h (congrArg Addr.off e)
theorem bmarks_apart (g off : Nat) (k : Int) (n : Nat) : Apart (bmarks g off k n) := by
  unfold Apart bmarks
  rw [List.map_map, List.nodup_iff_pairwise_ne, List.pairwise_map]
  refine (List.nodup_iff_pairwise_ne.1 List.nodup_range).imp ?_
  intro a b hab
  exact addr_ne_off (by omega)

theorem Apart.append {P Q : List (Addr × Value)} (h1 : Apart P) (h2 : Apart Q) (h : ∀ p ∈ P, ∀ q ∈ Q, p.1 ≠ q.1) : Apart (P ++ Q) := by
  unfold Apart at *
  rw [List.map_append, List.nodup_append]
  refine ⟨h1, h2, fun a ha b hb e => ?_⟩
  obtain ⟨p, hp, rfl⟩ := List.mem_map.1 ha
  obtain ⟨q, hq, rfl⟩ := List.mem_map.1 hb
  exact h p hp q hq e
theorem tmark1_apart {g : Nat} {k : Int} {i : Nat} {l : Lay} (h : 0 < l.2.2 → l.1 ≠ g) : Apart (tmark1 g 0 k i l) := by
  unfold tmark1
  refine Apart.append ?_ (bmarks_apart _ _ _ _) (fun p hp q hq => ?_)
  · unfold Apart
    simp
  · obtain ⟨j, hj, e, _⟩ := bmarks_mem hq
    rw [e]
    simp only [List.mem_cons, List.not_mem_nil, or_false] at hp
    rcases hp with rfl | rfl | rfl <;> exact addr_ne_block (Ne.symm (h (by omega)))

theorem OutO.own {base : Nat} {w : World} {v : Value} {ps : List (Tok × Value)} (h : OutO base w v ps) (hl : ps.length ≤ 6000) : ∃ g off ls, OwnT w base v (ps.map (·.1)) g off ls := by
  rcases h.ok.row.2 with ⟨hv, h0⟩ | ⟨g, cap, cur, hv, hbg, _⟩
  · have : ps = [] := List.eq_nil_of_length_eq_zero h0
    subst this
    subst hv
    exact ⟨0, 0, [], ⟨none, 0, rfl, fun h => absurd h (Nat.lt_irrefl _)⟩, rfl, by simp, by simp [tlen], fun j hj => absurd hj (Nat.not_lt_zero _), fun j hj => absurd hj (Nat.not_lt_zero _), fun j hj => absurd hj (Nat.not_lt_zero _), fun j hj => absurd hj (Nat.not_lt_zero _), fun j hj => absurd hj (Nat.not_lt_zero _), fun j hj => absurd hj (Nat.not_lt_zero _), ⟨List.nodup_nil, (fun p hp => by cases hp), fun i hi => absurd hi (Nat.not_lt_zero _)⟩, (fun p hp => by cases hp)⟩
  · have hrow := h.ok.row
    rw [hv] at hrow
    have hgt : ∀ p ∈ ps, ∀ g', p.2.ownBlock = some g' → g' ≠ g := fun p hp g' hg' e => by
      subst e
      exact own_apart (h.ok.text p hp).1 hrow g' rfl hg'
    have hc : ∀ j (hj : j < ps.length), w.cell? ⟨g, j * 4, none⟩ = some (.int .i64 ps[j].1.1) ∧ w.cell? ⟨g, j * 4 + 1, none⟩ = some (.int .i64 ps[j].1.2.1) ∧ w.cell? ⟨g, j * 4 + 2, none⟩ = some (.int .i64 ps[j].1.2.2.1) ∧ w.cell? ⟨g, j * 4 + 3, none⟩ = some ps[j].2 := fun j hj => by
      obtain ⟨c0, c1, c2, c3⟩ := flatT_get ps j hj
      rw [← hrow.cellAt (j * 4) (by omega)] at c0
      rw [← hrow.cellAt (j * 4 + 1) (by omega)] at c1
      rw [← hrow.cellAt (j * 4 + 2) (by omega)] at c2
      rw [← hrow.cellAt (j * 4 + 3) (by omega)] at c3
      exact ⟨c0, c1, c2, c3⟩
    have hll : (ps.map layOf).length = ps.length := List.length_map ..
    have htx : ∀ j (hj : j < ps.length), _ := fun j hj => h.ok.text ps[j] (List.getElem_mem hj)
    -- what a mark's place is
    have hmk : ∀ m, m ≤ ps.length → ∀ p ∈ tmarks g 0 1 (ps.map layOf) m, ∃ i, ∃ hi : i < ps.length, i < m ∧ ((∃ c, c < 3 ∧ p.1 = ⟨g, i * 4 + c, none⟩) ∨ ∃ j, j < ps[i].1.2.2.2.length ∧ p.1 = ⟨(layOf ps[i]).1, (layOf ps[i]).2.1 + j, none⟩) := fun m hm p hp => by
      obtain ⟨i, hi, hq⟩ := List.mem_flatMap.1 hp
      have hi' : i < ps.length := by have := List.mem_range.1 hi; omega
      rw [lay_map hi'] at hq
      exact ⟨i, hi', List.mem_range.1 hi, tmark1_mem hq⟩
    refine ⟨g, 0, ps.map layOf, ⟨some ⟨g, 0, none⟩, cap, by rw [hv, List.length_map], fun _ => rfl⟩, by rw [hll, List.length_map], by rw [List.length_map]; omega, ?_, ?_, ?_, ?_, ?_, ?_, ?_, ⟨?_, ?_, ?_⟩, ?_⟩
    · have := tlen_le (ps := ps) (fun p hp => (h.ok.text p hp).2.2)
      omega
    · intro j hj i
      rw [List.length_map] at hj
      rw [List.getElem_map]
      exact (htx j hj).2.1 i
    · intro j hj
      rw [List.length_map] at hj
      rw [lay_map hj, List.getElem_map]
      have := (htx j hj).2.2
      exact ⟨rfl, by omega⟩
    · intro j hj
      rw [List.length_map] at hj
      rw [List.getElem_map, Nat.zero_add]
      exact (hc j hj).1
    · intro j hj
      rw [List.length_map] at hj
      rw [List.getElem_map, Nat.zero_add]
      exact (hc j hj).2.1
    · intro j hj
      rw [List.length_map] at hj
      rw [List.getElem_map, Nat.zero_add]
      exact (hc j hj).2.2.1
    · intro j hj i hi
      rw [List.length_map] at hj
      rw [List.getElem_map] at hi ⊢
      rw [lay_map hj]
      exact (text_cell (htx j hj).1 hi).1
    · have hap : ∀ m, m ≤ ps.length → Apart (tmarks g 0 1 (ps.map layOf) m) := fun m => by
        induction m with
        | zero => intro _; exact List.nodup_nil
        | succ m ih =>
          intro hm
          have hm' : m < ps.length := by omega
          rw [tmarks_succ, lay_map hm']
          refine Apart.append (ih (by omega)) (tmark1_apart (fun hn => hgt _ (List.getElem_mem hm') _ (text_cell (htx m hm').1 (i := 0) hn).2.2.2)) (fun p hp q hq => ?_)
          obtain ⟨i, hi, him, hpp⟩ := hmk m (by omega) p hp
          rcases tmark1_mem hq with ⟨c', hc', e'⟩ | ⟨j', hj', e'⟩
          · rcases hpp with ⟨c, hc3, e⟩ | ⟨j, hj, e⟩
            · rw [e, e']; exact addr_ne_off (by omega)
            · rw [e, e']; exact addr_ne_block (hgt _ (List.getElem_mem hi) _ (text_cell (htx i hi).1 hj).2.2.2)
          · have hb' := (text_cell (htx m hm').1 hj').2.2.2
            rcases hpp with ⟨c, hc3, e⟩ | ⟨j, hj, e⟩
            · rw [e, e']; exact addr_ne_block (Ne.symm (hgt _ (List.getElem_mem hm') _ hb'))
            · rw [e, e']
              have hb := (text_cell (htx i hi).1 hj).2.2.2
              refine addr_ne_block (fun eb => ?_)
              have hpw := (List.pairwise_iff_getElem.1 h.apart) i m hi hm' him
              rw [eb] at hb
              exact hpw _ hb hb'
      rw [hll]
      exact hap _ (Nat.le_refl _)
    · intro p hp
      obtain ⟨i, hi, _, hq⟩ := hmk ps.length (Nat.le_refl _) p (by rw [hll] at hp; exact hp)
      rcases hq with ⟨c, hc3, e⟩ | ⟨j, hj, e⟩
      · rw [e]
        obtain ⟨c0, c1, c2, _⟩ := hc i hi
        refine ⟨?_, hrow.frozenAt _⟩
        match c, hc3 with
        | 0, _ => exact ⟨_, c0⟩
        | 1, _ => exact ⟨_, c1⟩
        | 2, _ => exact ⟨_, c2⟩
      · rw [e]
        obtain ⟨a, b, _, _⟩ := text_cell (htx i hi).1 hj
        exact ⟨⟨_, a⟩, b⟩
    · intro i hi
      rw [hll] at hi
      obtain ⟨ta, tc, hvv, hta⟩ := text_form (htx i hi).1
      refine ⟨ta, tc, ?_, ?_, ?_⟩
      · rw [Nat.zero_add, (hc i hi).2.2.2, lay_map hi, hvv]
        rfl
      · intro hn
        rw [lay_map hi] at hn ⊢
        obtain ⟨g', hg', e⟩ := hta hn
        rw [e]
        have : (layOf ps[i]).1 = g' := by unfold layOf; rw [hg']
        rw [this]
        rfl
      · intro p hp
        obtain ⟨i', hi', _, hq⟩ := hmk ps.length (Nat.le_refl _) p (by rw [hll] at hp; exact hp)
        rw [Nat.zero_add]
        rcases hq with ⟨c, hc3, e⟩ | ⟨j, hj, e⟩
        · rw [e]; exact addr_ne_off (by omega)
        · rw [e]; exact addr_ne_block (hgt _ (List.getElem_mem hi') _ (text_cell (htx i' hi').1 hj).2.2.2)
    · intro p hp
      obtain ⟨i, hi, _, hq⟩ := hmk ps.length (Nat.le_refl _) p (by rw [hll] at hp; exact hp)
      rcases hq with ⟨c, _, e⟩ | ⟨j, hj, e⟩
      · rw [e]; exact hbg
      · rw [e]; exact (text_cell (htx i hi).1 hj).2.2.1

end Go.Proofs.YtleakieppapjmaaDoor.KL
