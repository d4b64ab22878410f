/- Several of my texts in one: X9, X10, X11, X12. -/
import Derived.Test.YtleakieppapjmaaDoorMA
import Derived.Test.YtleakieppapjmaaDoorMG
import Derived.Test.YtleakieppapjmaaDoorK13
import Derived.Test.YtleakieppapjmaaDoorK12
/- A step of Lex in plain words. -/
namespace Go.Proofs.YtleakieppapjmaaDoor
open Go.RowKit Go.Lib

theorem digF_dig : ∀ (k u : Nat), ∀ z ∈ digF k u, 48 ≤ z ∧ z ≤ 57
  | 0, _, z, h => by simp [digF] at h
  | k + 1, u, z, h => by
    unfold digF at h
    split at h
    · rw [List.mem_singleton] at h; omega
    · rw [List.mem_append] at h
      rcases h with h | h
      · exact digF_dig k _ z h
      · rw [List.mem_singleton] at h; omega
theorem tok_sign {p : List Int} {z : Int} (hi : inner z = false) (hp : p = [z] ∨ p = [61, 61] ∧ z = 61) : tokL p = if sign z then some (4, 0, p) else none := by
  have hlu : low z = false ∧ up z = false ∧ dig z = false := by
    unfold inner at hi
    rw [Bool.or_eq_false_iff, Bool.or_eq_false_iff] at hi
    exact ⟨hi.1.1, hi.1.2, hi.2⟩
  have hnd : ¬ (48 ≤ z ∧ z ≤ 57) := fun h => by
    have := hlu.2.2
    unfold dig at this
    rw [decide_eq_true h.1, decide_eq_true h.2] at this
    cases this
  have hfst : p.getD 0 0 = z := by
    rcases hp with rfl | ⟨rfl, rfl⟩ <;> rfl
  have h1 : KL.intOfL p = none := KL.intOfL_none (fun m hm e => by
    by_cases h0 : m < 0
    · rw [KL.decL_neg h0] at e
      rcases hp with rfl | ⟨rfl, rfl⟩
      · have hq := digF_pos 19 (-m).toNat
        have h2 := (List.cons.inj e).2
        rw [← h2] at hq
        exact absurd hq (Nat.lt_irrefl _)
      · have := (List.cons.inj e).1
        exact absurd this (by decide)
    · rw [KL.decL_nonneg h0] at e
      refine hnd (digF_dig 20 m.toNat z ?_)
      rw [← e]
      rcases hp with rfl | ⟨rfl, rfl⟩
      · exact List.mem_singleton.2 rfl
      · exact List.mem_cons_self ..)
  have h2 : KL.floatOfL p = none := KL.flo_none (fun h => by
    rcases hp with rfl | ⟨rfl, rfl⟩
    · exact absurd h.1 (show ¬ (1 = 18) by decide)
    · exact absurd h.1 (show ¬ (2 = 18) by decide))
  have h3 : wordL p false = false := by
    unfold wordL
    rw [hfst, if_neg (by decide), hlu.1]
    simp
  have h4 : wordL p true = false := by
    unfold wordL
    rw [hfst, if_pos rfl, hlu.2.1]
    simp
  have h5 : signT p = sign z := by
    unfold signT
    rcases hp with rfl | ⟨rfl, rfl⟩
    · show (decide (1 = 1) && sign z || decide ([z] = [61, 61])) = sign z
      rw [decide_eq_false (show ¬ [z] = [61, 61] by simp)]
      simp
    · decide
  unfold tokL
  rw [h1, h2, h3, h4, h5]
  rfl
theorem inner_nosign {z : Int} (h : inner z = true) : sign z = false ∧ z ≠ 61 := by
  unfold inner low up dig at h
  have hq : (97 ≤ z ∧ z ≤ 122) ∨ (65 ≤ z ∧ z ≤ 90) ∨ (48 ≤ z ∧ z ≤ 57) := by
    simp only [Bool.or_eq_true, Bool.and_eq_true, decide_eq_true_eq] at h
    omega
  refine ⟨sign_false (fun j hj e => ?_), by omega⟩
  have : ∀ j, j < 16 → ¬ ((97 ≤ signL.getD j 0 ∧ signL.getD j 0 ≤ 122) ∨ (65 ≤ signL.getD j 0 ∧ signL.getD j 0 ≤ 90) ∨ (48 ≤ signL.getD j 0 ∧ signL.getD j 0 ≤ 57)) := by decide
  exact this j hj (by rw [e]; exact hq)
theorem tok_piece {p : List Int} (i : Nat) (h0 : inner (p.getD 0 0) = true ∨ (p.getD 0 0 = 45 ∧ p.length ≠ 1)) : (tokL p).map (fun t => (t.1, (i : Int), t.2.1, t.2.2)) = KL.pieceT p i := by
  have h5 : signT p = false := by
    unfold signT
    rw [Bool.or_eq_false_iff]
    constructor
    · rw [Bool.and_eq_false_iff]
      rcases h0 with h | h
      · exact .inr (inner_nosign h).1
      · exact .inl (decide_eq_false h.2)
    · refine decide_eq_false (fun e => ?_)
      rw [e] at h0
      rcases h0 with h | h
      · exact (inner_nosign h).2 rfl
      · exact absurd h.1 (by decide)
  unfold tokL KL.pieceT
  cases KL.intOfL p with
  | some n => rfl
  | none =>
    cases KL.floatOfL p with
    | some m => rfl
    | none =>
      simp only
      rw [h5]
      by_cases hw : (wordL p false || wordL p true) = true
      · rw [if_pos hw, if_pos hw]; rfl
      · rw [if_neg hw, if_neg hw]; rfl
theorem size_in {zs : List Int} {i : Nat} (hi : i < zs.length) : 1 ≤ sizeL zs i ∧ i + sizeL zs i ≤ zs.length := by
  unfold sizeL
  split
  · have h1 := KL.pieceE_ge zs (i + 1)
    have h2 := KL.pieceE_le (zs := zs) (j := i + 1) (by omega)
    omega
  · unfold KL.signE
    split
    · rename_i h
      rw [Bool.and_eq_true, Bool.and_eq_true, decide_eq_true_eq] at h
      omega
    · omega
theorem cut_first {zs : List Int} {i : Nat} (hi : i < zs.length) : (KL.cutL zs i (i + sizeL zs i)).length = sizeL zs i ∧ (KL.cutL zs i (i + sizeL zs i)).getD 0 0 = zs.getD i 0 := by
  obtain ⟨h1, h2⟩ := size_in hi
  exact ⟨by rw [KL.cutL_len h2]; omega, by rw [KL.cutL_get h2 (by omega)]; rfl⟩
/-- A step that is no blank. -/
theorem step_tok {zs : List Int} {i : Nat} (hi : i < zs.length) (hb : KL.blankB (zs.getD i 0) = false) : KL.stepL zs i = (tokL (KL.cutL zs i (i + sizeL zs i))).map fun t => ([(t.1, (i : Int), t.2.1, t.2.2)], i + sizeL zs i) := by
  obtain ⟨h1, h2⟩ := size_in hi
  obtain ⟨c1, c2⟩ := cut_first hi
  unfold KL.stepL
  rw [hb, if_neg (by decide)]
  cases hs : KL.startB zs i with
  | true =>
    have hsz : i + sizeL zs i = KL.pieceE zs (i + 1) := by
      have := KL.pieceE_ge zs (i + 1)
      unfold sizeL
      rw [hs, if_pos rfl]
      omega
    rw [if_pos rfl, ← hsz, ← tok_piece (p := KL.cutL zs i (i + sizeL zs i)) i ?_, Option.map_map]
    · rfl
    · rw [c1, c2]
      unfold KL.startB at hs
      rw [Bool.or_eq_true] at hs
      rcases hs with h | h
      · exact .inl h
      · rw [Bool.and_eq_true, Bool.and_eq_true, beq_iff_eq, decide_eq_true_eq] at h
        refine .inr ⟨h.1.1, fun e => ?_⟩
        -- the piece goes on over the digit
        have hin : inner (zs.getD (i + 1) 0) = true := by unfold inner; rw [h.2, Bool.or_true]
        have hP := (KL.Piece.start zs (i + 1)).next h.1.2 hin
        obtain ⟨f, _, e2⟩ := hP
        have := (KL.pieceF_ge zs f (i + 1 + 1)).1
        rw [e2] at this
        omega
  | false =>
    rw [if_neg (by decide)]
    have hsz : i + sizeL zs i = KL.signE zs i := by
      have : i + 1 ≤ KL.signE zs i := by unfold KL.signE; split <;> omega
      unfold sizeL
      rw [hs, if_neg (by decide)]
      omega
    have hin : inner (zs.getD i 0) = false := by
      unfold KL.startB at hs
      rw [Bool.or_eq_false_iff] at hs
      exact hs.1
    rw [← hsz, tok_sign (p := KL.cutL zs i (i + sizeL zs i)) hin ?_]
    · by_cases hg : sign (zs.getD i 0) = true
      · rw [if_pos hg, if_pos hg]; rfl
      · rw [if_neg hg, if_neg hg]; rfl
    · rw [hsz] at c1 c2 ⊢
      unfold KL.signE at *
      by_cases hc : ((zs.getD i 0 == 61) && decide (i + 1 < zs.length) && (zs.getD (i + 1) 0 == 61)) = true
      · rw [if_pos hc] at *
        rw [Bool.and_eq_true, Bool.and_eq_true, beq_iff_eq, beq_iff_eq, decide_eq_true_eq] at hc
        right
        refine ⟨?_, hc.1.1⟩
        have g0 := KL.cutL_get (zs := zs) (i := i) (j := i + 2) (m := 0) (by omega) (by omega)
        have g1 := KL.cutL_get (zs := zs) (i := i) (j := i + 2) (m := 1) (by omega) (by omega)
        have gl := KL.cutL_len (zs := zs) (i := i) (j := i + 2) (by omega)
        generalize KL.cutL zs i (i + 2) = p at *
        match p, gl with
        | [a, b], _ =>
          have ga : a = zs.getD i 0 := g0
          have gb : b = zs.getD (i + 1) 0 := g1
          rw [ga, gb, hc.1.1, hc.2]
        | [], gl => exact absurd gl (by rw [List.length_nil]; omega)
        | [a], gl => exact absurd gl (by rw [List.length_cons, List.length_nil]; omega)
        | a :: b :: c :: r, gl => exact absurd gl (by rw [List.length_cons, List.length_cons, List.length_cons]; omega)
      · rw [if_neg hc] at *
        left
        have gl := KL.cutL_len (zs := zs) (i := i) (j := i + 1) (by omega)
        generalize KL.cutL zs i (i + 1) = p at *
        match p, gl with
        | [a], _ =>
          have ga : a = zs.getD i 0 := c2
          rw [ga]
        | [], gl => exact absurd gl (by rw [List.length_nil]; omega)
        | a :: b :: r, gl => exact absurd gl (by rw [List.length_cons, List.length_cons]; omega)
end Go.Proofs.YtleakieppapjmaaDoor
/- Tokens under way whose texts lie in cells of their own. -/
namespace Go.Proofs.YtleakieppapjmaaDoor.KL
open Go.RowKit

structure OutF (base : Nat) (w : World) (v : Value) (ps : List (Tok × Value)) : Prop where
  row : w.ownsRow base 34 4 v ps.length (flatT ps)
  text : ∀ p ∈ ps, TxtF base w p.2 p.1.2.2.2 ∧ (∀ j, isB (p.1.2.2.2.getD j 0)) ∧ p.1.2.2.2.length ≤ 6000
  emp : ps = [] → v = .slice none 0 0
  apart : ps.Pairwise fun a b => 0 < a.1.2.2.2.length → 0 < b.1.2.2.2.length → ∀ g, a.2.ownBlock = some g → b.2.ownBlock ≠ some g
theorem OutF.nil (base : Nat) (w : World) : OutF base w (.slice none 0 0) [] := ⟨World.ownsRow_nil _ _ _ _, (fun p hp => by cases hp), fun _ => rfl, List.Pairwise.nil⟩
theorem txt_keep {base : Nat} {w w' : World} {v : Value} {t : List Int} (h : TxtF base w v t) (hk : ∀ g, v.ownBlock = some g → 0 < t.length → g < w.heap.size → w'.heap[g]? = w.heap[g]?) : TxtF base w' v t := by
  rcases h with h | ⟨g, cap, rfl, hb, hc⟩
  · exact .inl h
  · refine .inr ⟨g, cap, rfl, hb, fun j hj => ?_⟩
    obtain ⟨c1, c2⟩ := hc j hj
    have hbk := hk g rfl (by omega) (lt_of_cell c1)
    exact ⟨(World.cell?_of_block (w := w) (w' := w') (a := ⟨g, j, none⟩) hbk).trans c1, (World.frozen?_of_block (w := w) (w' := w') (a := ⟨g, j, none⟩) hbk).trans c2⟩
theorem txt_weak {b1 b2 : Nat} {w : World} {v : Value} {t : List Int} (h : TxtF b1 w v t) (hb : b2 ≤ b1) : TxtF b2 w v t := by
  rcases h with h | ⟨g, cap, e, h1, hc⟩
  · exact .inl h
  · exact .inr ⟨g, cap, e, by omega, hc⟩
theorem OutF.later {base : Nat} {w w' : World} {v : Value} {ps : List (Tok × Value)} (h : OutF base w v ps) (hl : Later w w') : OutF base w' v ps :=
  ⟨h.row.kept (row := none) ⟨hl.os, hl.tape, hl.output, hl.size, fun k hk _ => hl.block k hk⟩ (by cases hv : v.ownBlock <;> simp), fun p hp => ⟨txt_keep (h.text p hp).1 (fun g _ _ hg => hl.block g hg), (h.text p hp).2⟩, h.emp, h.apart⟩
theorem txt_form {w : World} {base : Nat} {v : Value} {zs : List Int} (h : TxtF base w v zs) : ∃ ta tc, v = .slice ta zs.length tc ∧ (0 < zs.length → ∃ g, v.ownBlock = some g ∧ ta = some ⟨g, 0, none⟩) := by
  rcases h with ⟨rfl, rfl⟩ | ⟨g, cap, rfl, _⟩
  · exact ⟨none, 0, rfl, fun hn => absurd hn (Nat.lt_irrefl _)⟩
  · exact ⟨_, _, rfl, fun _ => ⟨g, rfl, rfl⟩⟩
theorem txt_cell {w : World} {base : Nat} {p : Tok × Value} (h : TxtF base w p.2 p.1.2.2.2) {i : Nat} (hi : i < p.1.2.2.2.length) : w.cell? ⟨(layOf p).1, (layOf p).2.1 + i, none⟩ = some (.int .u8 (p.1.2.2.2.getD i 0)) ∧ w.frozen? ⟨(layOf p).1, (layOf p).2.1 + i, none⟩ = false ∧ base ≤ (layOf p).1 ∧ p.2.ownBlock = some (layOf p).1 := by
  obtain ⟨t, v⟩ := p
  rcases h with ⟨h0, _⟩ | ⟨g, cap, hv, hb, hc⟩
  · simp only at h0 hi
    rw [h0] at hi
    exact absurd hi (Nat.not_lt_zero _)
  · simp only at hv hi hc ⊢
    subst hv
    have e : (layOf (t, Value.slice (some ⟨g, 0, none⟩) t.2.2.2.length cap)).1 = g := rfl
    have e2 : (layOf (t, Value.slice (some ⟨g, 0, none⟩) t.2.2.2.length cap)).2.1 = 0 := rfl
    rw [e, e2, Nat.zero_add]
    exact ⟨(hc i hi).1, (hc i hi).2, hb, rfl⟩
theorem row_first {base : Nat} {w : World} {v : Value} {ps : List (Tok × Value)} (h : w.ownsRow base 34 4 v ps.length (flatT ps)) (h0 : 0 < ps.length) {g : Nat} (hg : v.ownBlock = some g) : ∃ n, w.cell? ⟨g, 0, none⟩ = some (.int .i64 n) := by
  rcases h.2 with ⟨rfl, e⟩ | ⟨g', cap, cur, rfl, _⟩
  · cases hg
  · cases hg
    obtain ⟨c0, _⟩ := flatT_get ps 0 h0
    rw [← h.cellAt (0 * 4) (by omega)] at c0
    exact ⟨_, c0⟩
theorem OutF.lts {base : Nat} {w : World} {v : Value} {ps : List (Tok × Value)} (h : OutF base w v ps) : (∀ g, v.ownBlock = some g → g < w.heap.size) ∧ ∀ p ∈ ps, 0 < p.1.2.2.2.length → ∀ g, p.2.ownBlock = some g → g < w.heap.size := by
  refine ⟨fun g hg => (h.row.lt g hg).2, fun p hp hn g hg => ?_⟩
  obtain ⟨q1, _, _, q2⟩ := txt_cell (h.text p hp).1 hn
  rw [q2] at hg
  cases hg
  exact lt_of_cell q1
theorem OutF.push {base N : Nat} {w w' : World} {v v' : Value} {ps : List (Tok × Value)} (h : OutF base w v ps) (t : Tok) (tv : Value) (ht : TxtF N w tv t.2.2.2) (hN : base ≤ N) (hvN : ∀ g, v.ownBlock = some g → g < N) (hpN : ∀ p ∈ ps, 0 < p.1.2.2.2.length → ∀ g, p.2.ownBlock = some g → g < N) (hb : ∀ j, isB (t.2.2.2.getD j 0)) (hl : t.2.2.2.length ≤ 6000)
    (ho : w'.ownsRow base 34 4 v' (ps.length + 1) (flatT ps ++ [.int .i64 t.1, .int .i64 t.2.1, .int .i64 t.2.2.1, tv])) (hg : w.grownBy w' v.ownBlock) : OutF base w' v' (ps ++ [(t, tv)]) := by
  have hnew : ∀ g, tv.ownBlock = some g → 0 < t.2.2.2.length → N ≤ g := fun g hq hn => by
    have := txt_cell (p := (t, tv)) ht hn
    have h2 := this.2.2.2
    simp only at h2
    rw [hq] at h2
    cases h2
    exact this.2.2.1
  refine ⟨?_, fun p hp => ?_, fun e => by simp at e, ?_⟩
  · rw [flatT_append, List.length_append]; exact ho
  · rcases List.mem_append.1 hp with hp | hp
    · refine ⟨txt_keep (h.text p hp).1 (fun g hq hn hlt => hg.block g hlt (fun e => ?_)), (h.text p hp).2⟩
      obtain ⟨n, q0⟩ := row_first h.row (List.length_pos_of_mem hp) e.symm
      obtain ⟨q1, _, _, q2⟩ := txt_cell (h.text p hp).1 hn
      rw [q2] at hq
      cases hq
      have el : (layOf p).2.1 + 0 = 0 := rfl
      rw [el, q0] at q1
      cases q1
    · rw [List.mem_singleton.1 hp]
      refine ⟨txt_keep (txt_weak ht hN) (fun g hq hn hlt => hg.block g hlt (fun e => ?_)), hb, hl⟩
      have h1 := hnew g hq hn
      have h2 := hvN g e.symm
      omega
  · rw [List.pairwise_append]
    refine ⟨h.apart, List.pairwise_singleton _ _, fun a ha b hb' h1 h2 g hg' e => ?_⟩
    rw [List.mem_singleton.1 hb'] at h2 e
    have q1 := hpN a ha h1 g hg'
    have q2 := hnew g e h2
    omega

theorem OutF.own {base : Nat} {w : World} {v : Value} {ps : List (Tok × Value)} (h : OutF base w v ps) (hl : ps.length ≤ 6000) : ∃ g off ls, OwnT w base v (ps.map (·.1)) g off ls := by
  rcases h.row.2 with ⟨hv, h0⟩ | ⟨g, cap, cur, hv, hbg, _⟩
  · have : ps = [] := List.eq_nil_of_length_eq_zero h0
    subst this
    subst hv
    exact ⟨0, 0, [], ⟨none, 0, rfl, fun h => absurd h (Nat.lt_irrefl _)⟩, rfl, by simp, by simp [tlen], fun j hj => absurd hj (Nat.not_lt_zero _), fun j hj => absurd hj (Nat.not_lt_zero _), fun j hj => absurd hj (Nat.not_lt_zero _), fun j hj => absurd hj (Nat.not_lt_zero _), fun j hj => absurd hj (Nat.not_lt_zero _), fun j hj => absurd hj (Nat.not_lt_zero _), ⟨List.nodup_nil, (fun p hp => by cases hp), fun i hi => absurd hi (Nat.not_lt_zero _)⟩, (fun p hp => by cases hp)⟩
  · have hrow := h.row
    rw [hv] at hrow
    have hc : ∀ j (hj : j < ps.length), w.cell? ⟨g, j * 4, none⟩ = some (.int .i64 ps[j].1.1) ∧ w.cell? ⟨g, j * 4 + 1, none⟩ = some (.int .i64 ps[j].1.2.1) ∧ w.cell? ⟨g, j * 4 + 2, none⟩ = some (.int .i64 ps[j].1.2.2.1) ∧ w.cell? ⟨g, j * 4 + 3, none⟩ = some ps[j].2 := fun j hj => by
      obtain ⟨c0, c1, c2, c3⟩ := flatT_get ps j hj
      rw [← hrow.cellAt (j * 4) (by omega)] at c0
      rw [← hrow.cellAt (j * 4 + 1) (by omega)] at c1
      rw [← hrow.cellAt (j * 4 + 2) (by omega)] at c2
      rw [← hrow.cellAt (j * 4 + 3) (by omega)] at c3
      exact ⟨c0, c1, c2, c3⟩
    have hgt : ∀ p ∈ ps, 0 < p.1.2.2.2.length → ∀ g', p.2.ownBlock = some g' → g' ≠ g := fun p hp hn g' hg' e => by
      obtain ⟨q1, _, _, q2⟩ := txt_cell (h.text p hp).1 hn
      have h0 : 0 < ps.length := List.length_pos_of_mem hp
      have h1 := (hc 0 h0).1
      rw [q2] at hg'
      cases hg'
      rw [e] at q1
      have ez : (0 : Nat) * 4 = 0 := rfl
      have el : (layOf p).2.1 + 0 = 0 := rfl
      rw [ez] at h1
      rw [el, h1] at q1
      cases q1
    have hll : (ps.map layOf).length = ps.length := List.length_map ..
    have htx : ∀ j (hj : j < ps.length), _ := fun j hj => h.text ps[j] (List.getElem_mem hj)
    -- what a mark's place is
    have hmk : ∀ m, m ≤ ps.length → ∀ p ∈ tmarks g 0 1 (ps.map layOf) m, ∃ i, ∃ hi : i < ps.length, i < m ∧ ((∃ c, c < 3 ∧ p.1 = ⟨g, i * 4 + c, none⟩) ∨ ∃ j, j < ps[i].1.2.2.2.length ∧ p.1 = ⟨(layOf ps[i]).1, (layOf ps[i]).2.1 + j, none⟩) := fun m hm p hp => by
      obtain ⟨i, hi, hq⟩ := List.mem_flatMap.1 hp
      have hi' : i < ps.length := by have := List.mem_range.1 hi; omega
      rw [lay_map hi'] at hq
      exact ⟨i, hi', List.mem_range.1 hi, tmark1_mem hq⟩
    refine ⟨g, 0, ps.map layOf, ⟨some ⟨g, 0, none⟩, cap, by rw [hv, List.length_map], fun _ => rfl⟩, by rw [hll, List.length_map], by rw [List.length_map]; omega, ?_, ?_, ?_, ?_, ?_, ?_, ?_, ⟨?_, ?_, ?_⟩, ?_⟩
    · have := tlen_le (ps := ps) (fun p hp => (h.text p hp).2.2)
      omega
    · intro j hj i
      rw [List.length_map] at hj
      rw [List.getElem_map]
      exact (htx j hj).2.1 i
    · intro j hj
      rw [List.length_map] at hj
      rw [lay_map hj, List.getElem_map]
      have := (htx j hj).2.2
      exact ⟨rfl, by omega⟩
    · intro j hj
      rw [List.length_map] at hj
      rw [List.getElem_map, Nat.zero_add]
      exact (hc j hj).1
    · intro j hj
      rw [List.length_map] at hj
      rw [List.getElem_map, Nat.zero_add]
      exact (hc j hj).2.1
    · intro j hj
      rw [List.length_map] at hj
      rw [List.getElem_map, Nat.zero_add]
      exact (hc j hj).2.2.1
    · intro j hj i hi
      rw [List.length_map] at hj
      rw [List.getElem_map] at hi ⊢
      rw [lay_map hj]
      exact (txt_cell (htx j hj).1 hi).1
    · have hap : ∀ m, m ≤ ps.length → Apart (tmarks g 0 1 (ps.map layOf) m) := fun m => by
        induction m with
        | zero => intro _; exact List.nodup_nil
        | succ m ih =>
          intro hm
          have hm' : m < ps.length := by omega
          rw [tmarks_succ, lay_map hm']
          refine Apart.append (ih (by omega)) (tmark1_apart (fun hn => hgt _ (List.getElem_mem hm') hn _ (txt_cell (htx m hm').1 (i := 0) hn).2.2.2)) (fun p hp q hq => ?_)
          obtain ⟨i, hi, him, hpp⟩ := hmk m (by omega) p hp
          rcases tmark1_mem hq with ⟨c', hc', e'⟩ | ⟨j', hj', e'⟩
          · rcases hpp with ⟨c, hc3, e⟩ | ⟨j, hj, e⟩
            · rw [e, e']; exact addr_ne_off (by omega)
            · rw [e, e']; exact addr_ne_block (hgt _ (List.getElem_mem hi) (Nat.lt_of_le_of_lt (Nat.zero_le _) hj) _ (txt_cell (htx i hi).1 hj).2.2.2)
          · have hb' := (txt_cell (htx m hm').1 hj').2.2.2
            rcases hpp with ⟨c, hc3, e⟩ | ⟨j, hj, e⟩
            · rw [e, e']; exact addr_ne_block (Ne.symm (hgt _ (List.getElem_mem hm') (Nat.lt_of_le_of_lt (Nat.zero_le _) hj') _ hb'))
            · rw [e, e']
              have hb := (txt_cell (htx i hi).1 hj).2.2.2
              refine addr_ne_block (fun eb => ?_)
              have hpw := (List.pairwise_iff_getElem.1 h.apart) i m hi hm' him
              rw [eb] at hb
              exact hpw (Nat.lt_of_le_of_lt (Nat.zero_le _) hj) (Nat.lt_of_le_of_lt (Nat.zero_le _) hj') _ hb hb'
      rw [hll]
      exact hap _ (Nat.le_refl _)
    · intro p hp
      obtain ⟨i, hi, _, hq⟩ := hmk ps.length (Nat.le_refl _) p (by rw [hll] at hp; exact hp)
      rcases hq with ⟨c, hc3, e⟩ | ⟨j, hj, e⟩
      · rw [e]
        obtain ⟨c0, c1, c2, _⟩ := hc i hi
        refine ⟨?_, hrow.frozenAt _⟩
        match c, hc3 with
        | 0, _ => exact ⟨_, c0⟩
        | 1, _ => exact ⟨_, c1⟩
        | 2, _ => exact ⟨_, c2⟩
      · rw [e]
        obtain ⟨a, b, _, _⟩ := txt_cell (htx i hi).1 hj
        exact ⟨⟨_, a⟩, b⟩
    · intro i hi
      rw [hll] at hi
      obtain ⟨ta, tc, hvv, hta⟩ := txt_form (htx i hi).1
      refine ⟨ta, tc, ?_, ?_, ?_⟩
      · rw [Nat.zero_add, (hc i hi).2.2.2, lay_map hi, hvv]
        rfl
      · intro hn
        rw [lay_map hi] at hn ⊢
        obtain ⟨g', hg', e⟩ := hta hn
        rw [e]
        have : (layOf ps[i]).1 = g' := by unfold layOf; rw [hg']
        rw [this]
        rfl
      · intro p hp
        obtain ⟨i', hi', _, hq⟩ := hmk ps.length (Nat.le_refl _) p (by rw [hll] at hp; exact hp)
        rw [Nat.zero_add]
        rcases hq with ⟨c, hc3, e⟩ | ⟨j, hj, e⟩
        · rw [e]; exact addr_ne_off (by omega)
        · rw [e]; exact addr_ne_block (hgt _ (List.getElem_mem hi') (Nat.lt_of_le_of_lt (Nat.zero_le _) hj) _ (txt_cell (htx i' hi').1 hj).2.2.2)
    · intro p hp
      obtain ⟨i, hi, _, hq⟩ := hmk ps.length (Nat.le_refl _) p (by rw [hll] at hp; exact hp)
      rcases hq with ⟨c, _, e⟩ | ⟨j, hj, e⟩
      · rw [e]; exact hbg
      · rw [e]; exact (txt_cell (htx i hi).1 hj).2.2.1

end Go.Proofs.YtleakieppapjmaaDoor.KL
/- impl.Lex. -/
namespace Go.Proofs.YtleakieppapjmaaDoor
open Go.RowKit Go.Lib

theorem tokL_text {p : List Int} {k n : Int} {t : List Int} (h : tokL p = some (k, n, t)) : t = [] ∨ t = p := by
  unfold tokL at h
  split at h
  · cases h; exact .inl rfl
  · split at h
    · cases h; exact .inl rfl
    · split at h
      · cases h; exact .inr rfl
      · split at h
        · cases h; exact .inr rfl
        · cases h
theorem rdb_cut {w : World} {zs : List Int} {g off n cap c : Nat} (h : RdB w (.slice (some ⟨g, off, none⟩) n cap) zs) (i j : Nat) (hij : i ≤ j) (hj : j ≤ zs.length) : RdB w (.slice (some ⟨g, off + i, none⟩) (j - i) c) (KL.cutL zs i j) := by
  obtain ⟨a, c', e, hl, hb, hc⟩ := h
  cases e
  refine ⟨_, c, by rw [KL.cutL_len hj], by rw [KL.cutL_len hj]; omega, KL.cutL_isB hb hj, fun m hm => ?_⟩
  rw [KL.cutL_len hj] at hm
  obtain ⟨g', off', e', h1, h2⟩ := hc (i + m) (by omega)
  cases e'
  exact ⟨g, off + i, rfl, h1, by rw [KL.cutL_get hj hm, Nat.add_assoc]; exact h2⟩
set_option maxRecDepth 20000 in
set_option maxHeartbeats 2000000 in
theorem ilex_any (a : Option Addr) (cap : Nat) (zs : List Int) (w : World) (hr : RdB w (.slice a zs.length cap) zs) (hl : zs.length ≤ 1048576) (hcap : zs.length ≤ cap) (hmx : cap ≤ maxLen) (hE : LEnv w) :
    Calls Tryd.prog 6 #[.slice a zs.length cap] w fun e w' => ∃ tv g off ls, e = .returned (.tuple #[tv, .int .i64 (KL.lexB zs)]) ∧ KL.OwnT w' w.heap.size tv (KL.lexT zs) g off ls ∧ Later w w' := by
  obtain ⟨iT, hiT, hzT0, hzT1, hzT2⟩ := info_parts KL.Tryd.info34
  obtain ⟨L, hL⟩ := hid_ex zs.length
  have HQ : Hid (∀ tv i ps w', KL.lexL zs = (ps.map (·.1), i) → KL.OutF w.heap.size w' tv ps → ps.length ≤ 6000 → Later w w' → ∃ tv' g off ls, Ending.returned (.tuple #[tv, .int .i64 i]) = .returned (.tuple #[tv', .int .i64 (KL.lexB zs)]) ∧ KL.OwnT w' w.heap.size tv' (KL.lexT zs) g off ls ∧ Later w w') := fun tv i ps w' e ho hp l => by
    obtain ⟨g, off, ls, h⟩ := ho.own hp
    refine ⟨tv, g, off, ls, by unfold KL.lexB; rw [e], ?_, l⟩
    unfold KL.lexT
    rw [e]
    exact h
  generalize hQ : (fun (e : Ending) (w' : World) => ∃ tv g off ls, e = .returned (.tuple #[tv, .int .i64 (KL.lexB zs)]) ∧ KL.OwnT w' w.heap.size tv (KL.lexT zs) g off ls ∧ Later w w') = Q
  have HQ2 : Hid (∀ tv i ps w', KL.lexL zs = (ps.map (·.1), i) → KL.OutF w.heap.size w' tv ps → ps.length ≤ 6000 → Later w w' → Q (.returned (.tuple #[tv, .int .i64 i])) w') := fun tv i ps w' e ho hp l => by rw [← hQ]; exact HQ.out tv i ps w' e ho hp l
  clear HQ hQ
  rw [← hL.out]
  by_cases hbig : 6000 < L
  · have HA := HQ2.out (.slice none 0 0) 0 [] w (by unfold KL.lexL; rw [if_pos (by rw [← hL.out]; simpa using hbig)]; rfl) (KL.OutF.nil _ _) (Nat.zero_le _) (Later.refl _)
    have hb2 : (6000 : Int) < (L : Int) := by omega
    clear HQ2 hr hE
    go_enter Tryd.func6, Tryd.ntmps6
    go_wp2_with fail
    exact HA
  · have hb2 : ¬ (6000 : Int) < (L : Int) := by omega
    have HD : Hid (KL.lexL zs = KL.lexR zs zs.length 0 []) := by unfold Hid KL.lexL; rw [if_neg (by rw [← hL.out]; simpa using hbig)]
    have hr' : Hid (RdB w (.slice a zs.length cap) zs) := hr
    have hE' : Hid (LEnv w) := hE
    clear hr hE
    go_enter Tryd.func6, Tryd.ntmps6
    go_wp2_with fail
    go_loopw [4, 5] (fun tv at_ wr => ∃ (k : Nat) (ps : List (KL.Tok × Value)), at_ = .int .i64 (k : Int) ∧ k ≤ L ∧ Hid (KL.OutF w.heap.size wr tv ps) ∧ Hid (KL.SoFar zs k (ps.map (·.1))) ∧ Later w wr ∧ ps.length ≤ k) (fun _ i _ => L - (RowKit.intOf i).toNat)
    case atStart => exact ⟨0, [], rfl, Nat.zero_le _, KL.OutF.nil _ _, KL.SoFar.start zs, Later.refl _, Nat.le_refl _⟩
    case round =>
      obtain ⟨k, ps, rfl, hk, hO, hS, lw, hps⟩ := hrel
      by_cases hlt : k < L
      · have hkz : k < zs.length := by have := hL.out; omega
        have ik : (k : Int) < (L : Int) := by omega
        obtain ⟨aa, cc, ee, hll, hz, hc⟩ := hr'.out.later lw
        cases ee
        obtain ⟨g, off, rfl, hg0, c0⟩ := hc k hkz
        obtain ⟨z, hzz⟩ := hid_ex (zs.getD k 0)
        rw [← hzz.out] at c0
        rcases (by omega : z = 32 ∨ z = 10 ∨ (¬ z = 32 ∧ ¬ z = 10)) with hb | hb | ⟨hb, hb'⟩
        · have hS2 : Hid (KL.SoFar zs (k + 1) (ps.map (·.1))) := by
            have := hS.out.next hkz (t := []) (j := k + 1) (by unfold KL.stepL; rw [if_pos (by rw [← hzz.out, hb]; rfl)]) (by omega)
            rw [List.append_nil] at this
            exact this
          subst hb
          clear hS HQ2 hc hz
          go_wp2_with fail
          go_roundw
          case rel => exact ⟨k + 1, ps, by go_num, by omega, hO, hS2, lw, by omega⟩
          case measure => simp [RowKit.intOf]; omega
        · have hS2 : Hid (KL.SoFar zs (k + 1) (ps.map (·.1))) := by
            have := hS.out.next hkz (t := []) (j := k + 1) (by unfold KL.stepL; rw [if_pos (by rw [← hzz.out, hb]; rfl)]) (by omega)
            rw [List.append_nil] at this
            exact this
          subst hb
          clear hS HQ2 hc hz
          go_wp2_with fail
          go_roundw
          case rel => exact ⟨k + 1, ps, by go_num, by omega, hO, hS2, lw, by omega⟩
          case measure => simp [RowKit.intOf]; omega
        · have hstep : Hid (KL.stepL zs k = (tokL (KL.cutL zs k (k + sizeL zs k))).map fun t => ([(t.1, (k : Int), t.2.1, t.2.2)], k + sizeL zs k)) := step_tok hkz (by unfold KL.blankB; rw [← hzz.out]; simp [hb, hb'])
          obtain ⟨hs1, hs2⟩ := size_in hkz
          have hcl := (cut_first hkz).1
          have hrw := hr'.out.later lw
          have hRd : RdN wr (.slice (some ⟨g, off + k, none⟩) (L - k) (cap - k)) (zs.drop k) := ⟨by have := hrw.drop (c := cap - k) k (by omega); rw [← hL.out] at this; exact this, _, _, by rw [List.length_drop, ← hL.out], by rw [List.length_drop]; omega, by omega⟩
          have hTS := tsize_any zs k hkz _ wr hRd
          obtain ⟨P, hP⟩ := hid_ex (KL.cutL zs k (k + sizeL zs k))
          obtain ⟨s, hs⟩ := hid_ex (sizeL zs k)
          have hPb : ∀ j, isB ((KL.cutL zs k (k + sizeL zs k)).getD j 0) := KL.cutL_isB hz hs2
          have hcut : Hid (∀ w', Later wr w' → RdB w' (.slice (some ⟨g, off + k, none⟩) (sizeL zs k) (cap - k)) (KL.cutL zs k (k + sizeL zs k))) := fun w' l => by
            have := rdb_cut (c := cap - k) (hrw.later l) k (k + sizeL zs k) (by omega) hs2
            rw [show k + sizeL zs k - k = sizeL zs k by omega] at this
            exact this
          rw [← hP.out] at hPb hcut hcl hstep
          rw [← hs.out] at hcut hcl hs1 hs2 hstep hTS
          have hks : (k : Int) + (s : Int) ≤ (cap : Int) := by omega
          have hb1 : (z == 32) = false := beq_eq_false_iff_ne.2 hb
          have hb2 : (z == 10) = false := beq_eq_false_iff_ne.2 hb'
          have hPl : P.length ≤ 6000 := by have := hL.out; omega
          have hsL : k + s ≤ L := by rw [hL.out]; exact hs2
          have hlts := hO.out
          clear hc hz hRd hrw hr'
          go_wp2_with fail
          refine hTS.mono ?_
          rintro e w1 ⟨rfl, l1⟩
          have hcv := conv_here (hcut.out w1 l1)
          have hT := tok_any P hPb hPl w1 (hE'.out.later (lw.trans l1))
          have hO1 : Hid (KL.OutF w.heap.size w1 u4 ps) := hO.out.later l1
          have lw1 := lw.trans l1
          generalize strOfNums P = SP at *
          have HB : Hid (tokL P = none → ∀ w', Later w w' → Q (.returned (.tuple #[.slice none 0 0, .int .i64 (k : Int)])) w') := fun hno w' l => HQ2.out _ _ [] w' (by
            rw [HD.out]
            exact hS.out.bad hkz (by rw [hstep.out, hno]; rfl)) (KL.OutF.nil _ _) (Nat.zero_le _) l
          clear hTS hcut hO hlts HQ2 HD
          go_wp2_with fail
          refine hT.mono ?_
          rintro e w2 ⟨tv, b, rfl, l2, hf, ht⟩
          clear hT hcv
          have lw2 := lw1.trans l2
          cases b with
          | false =>
            obtain ⟨hno, rfl⟩ := hf rfl
            have HC : Hid (∀ w', Later w w' → Q (.returned (.tuple #[.slice none 0 0, .int .i64 (k : Int)])) w') := HB.out hno
            clear HB hf ht hS hstep hO1
            go_wp2_with fail
            exact HC.out _ (lw2.trans (later1 _ _))
          | true =>
            obtain ⟨kd, n, t, xv, htok, rfl, htx⟩ := ht rfl
            have hO2 : Hid (KL.OutF w.heap.size w2 u4 ps) := hO1.out.later l2
            have hlts : Hid ((∀ g, u4.ownBlock = some g → g < w1.heap.size) ∧ ∀ p ∈ ps, 0 < p.1.2.2.2.length → ∀ g, p.2.ownBlock = some g → g < w1.heap.size) := hO1.out.lts
            obtain ⟨ta, tc, hxv, _⟩ := KL.txt_form htx
            obtain ⟨T, hTl⟩ := hid_ex t.length
            rw [← hTl.out] at hxv
            subst hxv
            have htx' : Hid (TxtF w1.heap.size w2 (.slice ta T tc) t) := htx
            have HS2 : Hid (KL.SoFar zs (k + s) ((ps ++ [((kd, (k : Int), n, t), Value.slice ta T tc)]).map (·.1))) := by
              have := hS.out.next hkz (t := [(kd, (k : Int), n, t)]) (j := k + s) (by rw [hstep.out, htok]; rfl) (by omega)
              rw [List.map_append]
              exact this
            have htb : Hid ((∀ j, isB (t.getD j 0)) ∧ t.length ≤ 6000) := by
              rcases tokL_text htok with rfl | rfl
              · exact ⟨fun j => ⟨by show (0 : Int) ≤ 0; decide, by show (0 : Int) ≤ 255; decide⟩, by decide⟩
              · exact ⟨hPb, hPl⟩
            have l24 : Later w2 ((w2.alloc (.cells #[.int .i64 kd, .int .i64 (k : Int), .int .i64 n, .slice ta T tc] 34)).alloc (.cells #[.int .i64 kd, .int .i64 (k : Int), .int .i64 n, .slice ta T tc] 34)) := (later1 _ _).trans (later1 _ _)
            have hO4 := hO2.out.later l24
            have hr4 := hO4.row
            have hO4' : Hid (KL.OutF w.heap.size _ u4 ps) := hO4
            have hs4 : w.heap.size ≤ _ := (lw2.trans l24).size
            have lw4 := lw2.trans l24
            have htx4 : Hid (TxtF w1.heap.size _ (.slice ta T tc) t) := KL.txt_keep htx'.out (fun g _ _ hg => l24.block g hg)
            have hsz1 : Hid (w.heap.size ≤ w1.heap.size) := lw1.size
            clear HB hf ht htx hO4 hstep hS htok hPb hPl hO1 hO2 l24
            go_wp2_with (at_builtin; refine wpList_append_own _ rfl _ _ 23 rfl w.heap.size 34 iT (.agg #[.int .i64 0, .int .i64 0, .int .i64 0, .slice none 0 0]) 4 48 Tryd.underlying23 hiT hzT0 hzT1 hzT2 rfl (by decide) _ _ _ rfl hr4 ⟨w2.heap.size + 1, 0, none⟩ 1 1 [.int .i64 kd, .int .i64 (k : Int), .int .i64 n, .slice ta T tc] rfl rfl (by simpa using KL.new_tok (w2.alloc (.cells #[.int .i64 kd, .int .i64 (k : Int), .int .i64 n, .slice ta T tc] 34)) (.int .i64 kd) (.int .i64 (k : Int)) (.int .i64 n) (.slice ta T tc)) (by simp [Value.oneCell']) (by unfold maxLen; omega) (by omega) hs4 ?_; intro v7 w7 o7 g7 _; obtain ⟨a7, p7, hv7⟩ := KL.own_form o7; rw [hv7])
            have hO7 : Hid (KL.OutF w.heap.size w7 v7 (ps ++ [((kd, (k : Int), n, t), Value.slice ta T tc)])) := KL.OutF.push hO4'.out (kd, (k : Int), n, t) (.slice ta T tc) htx4.out hsz1.out hlts.out.1 hlts.out.2 htb.out.1 htb.out.2 o7 g7
            have l7 : Later w w7 := Below.grown lw4 (row := u4.ownBlock) g7 hs4 (fun j hj => (hr4.lt j hj).1)
            rw [hv7] at hO7
            clear o7 g7 hr4 htx4 hlts hO4' hs4 lw4
            go_wp2_with fail
            go_roundw
            case rel => exact ⟨k + s, _, by go_num, hsL, hO7, HS2, l7, by rw [List.length_append]; simp; omega⟩
            case measure => simp [RowKit.intOf]; omega
      · have hk2 : k = L := by omega
        have ik : ¬ (k : Int) < (L : Int) := by omega
        have HA := HQ2.out _ (-1) ps wr (by rw [HD.out]; exact hS.out.done (by have := hL.out; omega)) hO.out (by omega) lw
        clear HQ2 hS HD
        go_wp2_with fail
        exact HA
end Go.Proofs.YtleakieppapjmaaDoor
/- The whole walk of the law FnExactLex. -/
namespace Go.Proofs.YtleakieppapjmaaDoor.KL
open Go.RowKit

set_option maxHeartbeats 4000000 in
theorem lawlexe_any (hS : LexR 4 lexT lexB) (v : Value) (zs : List Int) (w : World) (h : RdB w v zs) (hE : LEnv w) :
    Calls Tryd.prog 3 #[v] w fun e w' => e = .returned (.bool true) ∧ Later w w' := by
  obtain ⟨a, cap, rfl, hl, hz, _⟩ := id h
  by_cases hs : zs.length ≤ 1048576
  · have hs' : ¬ (1048576 : Int) < (zs.length : Int) := by omega
    go_enter Tryd.func3, Tryd.ntmps3
    go_wp2_with fail
    refine (tob_any _ zs w hs h).mono ?_
    rintro e w1 ⟨rfl, o1, l1⟩
    have r1 := own_rdb o1 rfl hs hz
    go_wp2_with fail
    refine (hS _ _ zs w1 r1 hs (Nat.le_refl _) (by unfold maxLen; omega)).mono ?_
    rintro e w2 ⟨tv2, rfl, t2, l2⟩
    obtain ⟨a2, p2, rfl, hl2, _⟩ := id t2
    have L2 := l1.trans l2
    clear r1 o1 l1 l2
    go_wp2_with fail
    refine (tob_any _ zs w2 hs (h.later L2)).mono ?_
    rintro e w3 ⟨rfl, o3, l3⟩
    have L3 := L2.trans l3
    have r3 := own_rdb o3 rfl hs hz
    have hn3 : w2.heap.size < w3.heap.size := (o3.lt w2.heap.size rfl).2
    have f3 : ∀ j, w3.frozen? ⟨w2.heap.size, j, none⟩ = false := fun j => o3.frozenAt j
    go_wp2_with fail
    refine (ilex_any _ _ zs w3 r3 hs (Nat.le_refl _) (by unfold maxLen; omega) (hE.later L3)).mono ?_
    rintro e w4 ⟨tv4, g, off, ls, rfl, t4, l4⟩
    obtain ⟨a4, p4, rfl, hta4⟩ := t4.shape
    have L4 := l3.trans l4
    clear o3 l3
    go_wp2_with fail
    refine (eqtoks_same t4.rd (t2.later L4)).mono ?_
    rintro e w5 ⟨rfl, l5⟩
    have L5 := L4.trans l5
    have M5 := l4.trans l5
    have t5 := t4.later l5
    clear l4 l5 t4 L4
    go_wp2_with fail
    refine (tob_any _ zs w5 hs (h.later (L2.trans L5))).mono ?_
    rintro e w6 ⟨rfl, o6, l6⟩
    have r6 := own_rdb o6 rfl hs hz
    have L6 := L5.trans l6
    have M6 := M5.trans l6
    have t6 := t5.later l6
    clear t5 L5 M5 l6 o6
    go_wp2_with fail
    refine (eqb_same (r3.later M6) r6).mono ?_
    rintro e w7 ⟨rfl, l7⟩
    have L7 := L6.trans l7
    have M7 := M6.trans l7
    have t7 := t6.later l7
    have r7 := (r3.later M6).later l7
    clear t6 L6 M6 l7 r6
    have hmk := markb_any w2.heap.size 0 zs.length zs.length 1 w7 (by decide) (by omega) (fun j hj => by
      obtain ⟨_, _, he, _, _, hc⟩ := r7
      cases he
      obtain ⟨g', off', he, _, hv⟩ := hc j hj
      cases he
      exact ⟨_, hv⟩) (fun j hj => by
      rw [Below.frozen M7 (p := ⟨w2.heap.size, 0 + j, none⟩) hn3, Nat.zero_add]
      exact f3 j)
    have hpos : ¬ 1 + (zs.length : Int) < 0 := by omega
    go_wp2_with fail
    refine hmk.mono ?_
    rintro e w8 ⟨rfl, W8⟩
    have hb8 : ∀ p ∈ bmarks w2.heap.size 0 1 zs.length, p.1.block = w2.heap.size := fun p hp => by
      obtain ⟨i, _, e, _⟩ := bmarks_mem hp
      rw [e]
    have L8 : Later w2 w8 := Below.trans L7 (W8.below (fun p hp => Nat.le_of_eq (hb8 p hp).symm))
    have t8 := t7.agree (w' := w8) (fun k hk _ => W8.block k (fun p hp => by rw [hb8 p hp]; omega))
    clear hmk W8 hb8 t7 L7 M7 r7 f3 r3
    go_wp2_with fail
    refine (eqtoks_same t8.rd (t2.later L8)).mono ?_
    rintro e w9 ⟨rfl, l9⟩
    have t9 := t8.later l9
    have L9 := L8.trans l9
    clear t8 L8 l9
    go_wp2_with fail
    refine (markt_own t9).mono ?_
    rintro e w10 ⟨rfl, W10⟩
    have L10 : Later w2 w10 := Below.trans L9 (W10.below (fun p hp => by have := t9.fresh p hp; omega))
    have hm10 := W10.cell
    have ht10 : ∀ i, i < ls.length → w10.cell? ⟨g, off + i * 4 + 3, none⟩ = w9.cell? ⟨g, off + i * 4 + 3, none⟩ := fun i hi => by
      obtain ⟨_, _, _, _, hne⟩ := t9.spots.text i hi
      exact W10.other _ hne
    have hq0 : ¬ 1 + tlen ls < 0 := by have := tlen_nonneg ls; omega
    clear W10 L9
    go_wp2_with fail
    refine (heldt_own t9 hm10 ht10).mono ?_
    rintro e w11 ⟨rfl, rfl⟩
    go_wp2_with fail
    refine (tob_any _ zs _ hs (h.later (L2.trans L10))).mono ?_
    rintro e w12 ⟨rfl, o12, l12⟩
    have r12 := own_rdb o12 rfl hs hz
    clear o12
    go_wp2_with fail
    refine (ilex_any _ _ zs w12 r12 hs (Nat.le_refl _) (by unfold maxLen; omega) (hE.later ((L2.trans L10).trans l12))).mono ?_
    rintro e w13 ⟨tv13, g13, off13, ls13, rfl, t13, l13⟩
    obtain ⟨a13, p13, rfl, _⟩ := t13.shape
    have N13 := l12.trans l13
    clear l12 l13 r12
    go_wp2_with fail
    refine (eqtoks_same t13.rd (t2.later (L10.trans N13))).mono ?_
    rintro e w14 ⟨rfl, l14⟩
    have N14 := N13.trans l14
    clear l14 N13 t13
    have hm14 : ∀ p ∈ tmarks g off 1 ls ls.length, w14.cell? p.1 = some p.2 := fun p hp => by
      rw [Below.cell N14 (lt_of_cell (hm10 p hp))]; exact hm10 p hp
    have ht14 : ∀ i, i < ls.length → w14.cell? ⟨g, off + i * 4 + 3, none⟩ = w9.cell? ⟨g, off + i * 4 + 3, none⟩ := fun i hi => by
      obtain ⟨_, _, hcell, _, _⟩ := t9.spots.text i hi
      have h10 := (ht10 i hi).trans hcell
      rw [Below.cell N14 (lt_of_cell h10)]
      exact ht10 i hi
    have L14 := L2.trans (L10.trans N14)
    clear hm10 ht10 N14 L10
    go_wp2_with fail
    refine (heldt_own t9 hm14 ht14).mono ?_
    rintro e w15 ⟨rfl, rfl⟩
    clear hm14 ht14
    go_wp2_with fail
    go_ret
    exact ⟨rfl, L14⟩
  · have hs' : (1048576 : Int) < (zs.length : Int) := by omega
    go_enter Tryd.func3, Tryd.ntmps3
    go_wp2_with fail
    go_ret
    exact ⟨rfl, Later.refl _⟩

end Go.Proofs.YtleakieppapjmaaDoor.KL
