/- By the model: which is nearest: what is counted; what is held meanwhile. -/
import Derived.Test.YthammngddmkhhaaZ11
namespace Go.Proofs.Ythammngddmkhhaa
open Go.RowKit

theorem Rd.other {E : Nat → Nat → Prop} {d m b : Nat} (hdm : d ≠ m) (h : Rd E b) (h1 : Rw E d m) (h2 : Rw E m d) : Rw E d b ∨ Rw E m b := by
  unfold Rd at h
  induction h with
  | zero _ =>
    by_cases q : (0 : Nat) = d
    · exact .inr (Rc.zero (fun r => hdm (q.symm.trans r)))
    · exact .inl (Rc.zero q)
  | @step a b _ hE _ ih =>
    rcases ih with ih | ih
    · by_cases q : b = d
      · subst q; exact .inr h2
      · exact .inl (Rc.step ih hE q)
    · by_cases q : b = m
      · subst q; exact .inl h1
      · exact .inr (Rc.step ih hE q)
theorem Dm.linear {E : Nat → Nat → Prop} {d m b : Nat} (hd : Dm E d b) (hm : Dm E m b) (hdm : d ≠ m) : Dm E d m ∨ Dm E m d := by
  by_cases h1 : Rw E d m
  · by_cases h2 : Rw E m d
    · rcases Rd.other hdm hd.1 h1 h2 with q | q
      · exact absurd q hd.2
      · exact absurd q hm.2
    · exact .inr ⟨hd.rd, h2⟩
  · exact .inl ⟨hm.rd, h1⟩
/-- Is d another one on all ways to b? By what was looked for. -/
def cb (al : List Bool) (cs : List (List Bool)) (b d : Nat) : Bool := sg al b && (!decide (d = b)) && !(sg (cs.getD d []) b)
structure Looked (E : Nat → Nat → Prop) (n : Nat) (al : List Bool) (cs : List (List Bool)) : Prop where
  al : ∀ i, i < n → (sg al i = true ↔ Rd E i)
  cs : ∀ d i, d < n → i < n → (sg (cs.getD d []) i = true ↔ Rw E d i)
  lt : ∀ i, Rd E i → i < n
theorem Looked.iff {E : Nat → Nat → Prop} {n : Nat} {al : List Bool} {cs : List (List Bool)} (h : Looked E n al cs) {b d : Nat} (hb : b < n) (hd : d < n) : cb al cs b d = true ↔ (Dm E d b ∧ d ≠ b) := by
  unfold cb Dm
  rw [Bool.and_eq_true, Bool.and_eq_true, Bool.not_eq_true', Bool.not_eq_true', decide_eq_false_iff_not, h.al b hb, ← Bool.not_eq_true, h.cs d b hd hb]
  exact ⟨fun q => ⟨⟨q.1.1, q.2⟩, q.1.2⟩, fun q => ⟨⟨q.1.1, q.2⟩, q.1.2⟩⟩
def cnt (al : List Bool) (cs : List (List Bool)) (m b : Nat) : Nat := (List.range m).countP (cb al cs b)
theorem cnt_succ (al : List Bool) (cs : List (List Bool)) (m b : Nat) : cnt al cs (m + 1) b = cnt al cs m b + (if cb al cs b m = true then 1 else 0) := by
  unfold cnt
  rw [List.range_succ, List.countP_append, List.countP_cons, List.countP_nil, Nat.zero_add]
theorem cnt_le (al : List Bool) (cs : List (List Bool)) (m b : Nat) : cnt al cs m b ≤ m := by
  unfold cnt
  have := List.countP_le_length (p := cb al cs b) (l := List.range m)
  rw [List.length_range] at this
  exact this
theorem Looked.cnt_lt {E : Nat → Nat → Prop} {n : Nat} {al : List Bool} {cs : List (List Bool)} (h : Looked E n al cs) {d m : Nat} (hd : d < n) (hm : m < n) (hdm : Dm E d m) (hne : d ≠ m) : cnt al cs n d < cnt al cs n m := by
  unfold cnt
  refine count_lt _ (fun e he q => ?_) d (List.mem_range.2 hd) ?_ ((h.iff hm hd).2 ⟨hdm, hne⟩)
  · have hen := List.mem_range.1 he
    obtain ⟨q1, q2⟩ := (h.iff hd hen).1 q
    refine (h.iff hm hen).2 ⟨q1.trans hdm, fun r => ?_⟩
    rw [r] at q1
    exact hne (hdm.antisymm q1)
  · cases q : cb al cs d d
    · rfl
    · exact absurd rfl ((h.iff hd hd).1 q).2
/-- The best of the first m. -/
def BestP (al : List Bool) (cs : List (List Bool)) (n m b : Nat) (z : Int) : Prop := (z = -1 ∧ ∀ d, d < m → cb al cs b d = false) ∨ (∃ d, d < m ∧ z = (d : Int) ∧ cb al cs b d = true ∧ ∀ d', d' < m → cb al cs b d' = true → cnt al cs n d' ≤ cnt al cs n d)
theorem BestP.start (al : List Bool) (cs : List (List Bool)) (n b : Nat) : BestP al cs n 0 b (-1) := .inl ⟨rfl, fun _ hd => absurd hd (Nat.not_lt_zero _)⟩
theorem BestP.skip {al : List Bool} {cs : List (List Bool)} {n m b : Nat} {z : Int} (h : BestP al cs n m b z) (hc : cb al cs b m = false ∨ (∃ d : Nat, z = (d : Int) ∧ cnt al cs n m ≤ cnt al cs n d)) : BestP al cs n (m + 1) b z := by
  rcases h with ⟨hz, h⟩ | ⟨d, hd, hz, hc1, h⟩
  · refine .inl ⟨hz, fun d hd => ?_⟩
    rcases Nat.lt_or_ge d m with q | q
    · exact h d q
    · obtain rfl : d = m := by omega
      rcases hc with hc | ⟨d', hz', _⟩
      · exact hc
      · omega
  · refine .inr ⟨d, by omega, hz, hc1, fun d' hd' hc' => ?_⟩
    rcases Nat.lt_or_ge d' m with q | q
    · exact h d' q hc'
    · obtain rfl : d' = m := by omega
      rcases hc with hc | ⟨d2, hz', hle⟩
      · rw [hc] at hc'; cases hc'
      · obtain rfl : d2 = d := by omega
        exact hle
theorem BestP.take {al : List Bool} {cs : List (List Bool)} {n m b : Nat} {z : Int} (h : BestP al cs n m b z) (hc : cb al cs b m = true) (hg : z < 0 ∨ ∃ d : Nat, z = (d : Int) ∧ cnt al cs n d < cnt al cs n m) : BestP al cs n (m + 1) b (m : Int) := by
  refine .inr ⟨m, Nat.lt_succ_self _, rfl, hc, fun d' hd' hc' => ?_⟩
  rcases Nat.lt_or_ge d' m with q | q
  · rcases h with ⟨_, h⟩ | ⟨d, hd, hz, _, h⟩
    · rw [h d' q] at hc'; cases hc'
    · have := h d' q hc'
      rcases hg with hg | ⟨d2, hz', hlt⟩
      · omega
      · obtain rfl : d2 = d := by omega
        omega
  · obtain rfl : d' = m := by omega
    exact Nat.le_refl _
theorem BestP.isDoms {E : Nat → Nat → Prop} {n : Nat} {al : List Bool} {cs : List (List Bool)} (h : Looked E n al cs) {zs : List Int} (hl : zs.length = n) (hb : ∀ b, b < n → BestP al cs n n b (zs.getD b 0)) : IsDoms E n zs := by
  refine ⟨hl, fun b hbn hr hz => ?_, fun b hbn hno => ?_⟩
  · rcases hb b hbn with ⟨_, q⟩ | ⟨d, hd, e, hc, q⟩
    · exfalso
      have h0 : Dm E 0 b := ⟨hr, fun r => by
        have : ∀ i, ¬ Rw E 0 i := fun i r => by
          unfold Rw at r
          induction r with
          | zero q => exact q rfl
          | step _ _ _ ih => exact ih
        exact this b r⟩
      have := (h.iff hbn (by omega)).2 ⟨h0, fun r => hz r.symm⟩
      rw [q 0 (by omega)] at this
      cases this
    · obtain ⟨q1, q2⟩ := (h.iff hbn hd).1 hc
      refine ⟨d, e, q1, q2, fun d' hd' hne => ?_⟩
      by_cases r : d' = d
      · subst r; exact Dm.refl hd'.rd
      · have hdn : d' < n := h.lt d' hd'.rd
        rcases Dm.linear hd' q1 r with t | t
        · exact t
        · have h1 := h.cnt_lt hd hdn t (fun s => r s.symm)
          have h2 := q d' hdn ((h.iff hbn hdn).2 ⟨hd', hne⟩)
          omega
  · rcases hb b hbn with ⟨e, _⟩ | ⟨d, hd, _, hc, _⟩
    · exact e
    · exfalso
      obtain ⟨q1, q2⟩ := (h.iff hbn hd).1 hc
      refine hno ⟨q1.1, fun r => ?_⟩
      subst r
      exact q2 q1.zero
theorem own_kept {w w' : World} {base : Nat} {e : TypeId} {size : Nat} {v : Value} {n : Nat} {xs : List Value} (h : w.ownsRow base e size v n xs) (hb : ∀ g, RT w g e → w'.heap[g]? = w.heap[g]?) : w'.ownsRow base e size v n xs := by
  refine ⟨h.1, ?_⟩
  rcases h.2 with hn | ⟨g, cap, cur, rfl, hb', hgg, rest⟩
  · exact .inl hn
  · exact .inr ⟨g, cap, cur, rfl, hb', by rw [hb g ⟨cur, hgg⟩]; exact hgg, rest⟩
theorem RT.lt {w : World} {g : Nat} {t : TypeId} (h : RT w g t) : g < w.heap.size := by
  obtain ⟨cs, h⟩ := h
  exact (Array.getElem?_eq_some_iff.1 h).1
def sl (n : Nat) (h : Nat) : Value := .slice (some ⟨h, 0, none⟩) n n
/-- What is held while the nearest are found: out, count, all, cut. -/
structure Ds (W w : World) (go gc ga : Nat) (n : Nat) (zo zc : List Int) (al : List Bool) (cv : Value) (hs : List Nat) (cs : List (List Bool)) : Prop where
  lat : Later W w
  xo : RI w go zo
  ty1 : RT w go 3
  xc : RI w gc zc
  ty2 : RT w gc 3
  xa : RB w ga al
  ty3 : RT w ga 4
  own : w.ownsRow W.heap.size 57 1 cv hs.length (hs.map (sl n))
  rows : ∀ r (hr : r < hs.length), RB w hs[r] (cs.getD r []) ∧ RT w hs[r] 4 ∧ (cs.getD r []).length = n
  cl : cs.length = hs.length
  ol : zo.length = n
  kl : zc.length = n
  ll : al.length = n
  base : W.heap.size ≤ go ∧ W.heap.size ≤ gc
  ap : go ≠ gc
section
variable {W w w' : World} {go gc ga : Nat} {n : Nat} {zo zc : List Int} {al : List Bool} {cv : Value} {hs : List Nat} {cs : List (List Bool)}
theorem Ds.later (h : Ds W w go gc ga n zo zc al cv hs cs) (l : Later w w') : Ds W w' go gc ga n zo zc al cv hs cs :=
  ⟨h.lat.trans l, h.xo.later l, h.ty1.later l, h.xc.later l, h.ty2.later l, h.xa.later l, h.ty3.later l, own_kept h.own (fun g hg => l.block g hg.lt), fun r hr => ⟨(h.rows r hr).1.later l, (h.rows r hr).2.1.later l, (h.rows r hr).2.2⟩, h.cl, h.ol, h.kl, h.ll, h.base, h.ap⟩
theorem RT.ne {w : World} {g g' : Nat} {t t' : TypeId} (h : RT w g t) (k : RT w g' t') (ht : t ≠ t') : g ≠ g' := fun e => by subst e; exact ht (h.unique k)
theorem Ds.setO (h : Ds W w go gc ga n zo zc al cv hs cs) (j : Nat) (hj : j < n) (v : Int) : Ds W (w.setCell ⟨go, j, none⟩ (.int .i64 v)) go gc ga n (zo.set j v) zc al cv hs cs :=
  ⟨Later.setAt h.lat h.base.1 _ _, h.xo.set j (by rw [h.ol]; exact hj) v, h.ty1.set _ _ _, h.xc.other h.ap _, h.ty2.set _ _ _, h.xa.other (h.ty1.ne h.ty3 (by decide)) _, h.ty3.set _ _ _, own_kept h.own (fun g hg => Below.heap_setCell _ _ _ _ (hg.ne h.ty1 (by decide))), fun r hr => ⟨(h.rows r hr).1.other (h.ty1.ne (h.rows r hr).2.1 (by decide)) _, (h.rows r hr).2.1.set _ _ _, (h.rows r hr).2.2⟩, h.cl, by rw [List.length_set]; exact h.ol, h.kl, h.ll, h.base, h.ap⟩
theorem Ds.setC (h : Ds W w go gc ga n zo zc al cv hs cs) (j : Nat) (hj : j < n) (v : Int) : Ds W (w.setCell ⟨gc, j, none⟩ (.int .i64 v)) go gc ga n zo (zc.set j v) al cv hs cs :=
  ⟨Later.setAt h.lat h.base.2 _ _, h.xo.other (Ne.symm h.ap) _, h.ty1.set _ _ _, h.xc.set j (by rw [h.kl]; exact hj) v, h.ty2.set _ _ _, h.xa.other (h.ty2.ne h.ty3 (by decide)) _, h.ty3.set _ _ _, own_kept h.own (fun g hg => Below.heap_setCell _ _ _ _ (hg.ne h.ty2 (by decide))), fun r hr => ⟨(h.rows r hr).1.other (h.ty2.ne (h.rows r hr).2.1 (by decide)) _, (h.rows r hr).2.1.set _ _ _, (h.rows r hr).2.2⟩, h.cl, h.ol, by rw [List.length_set]; exact h.kl, h.ll, h.base, h.ap⟩
/-- One more row. -/
theorem Ds.put (h : Ds W w go gc ga n zo zc al cv hs cs) {h' : Nat} {c : List Bool} (hx : RB w h' c) (ht : RT w h' 4) (hl : c.length = n) {v' : Value} (o : w'.ownsRow W.heap.size 57 1 v' (hs.length + 1) (hs.map (sl n) ++ [.slice (some ⟨h', 0, none⟩) n n])) (g : w.grownBy w' cv.ownBlock) : Ds W w' go gc ga n zo zc al v' (hs ++ [h']) (cs ++ [c]) := by
  have hk : ∀ b t, RT w b t → t ≠ 57 → w'.heap[b]? = w.heap[b]? := fun b t hb hne => g.block b hb.lt (fun e => by
    rcases h.own.2 with ⟨q, _⟩ | ⟨g', cap, cur, q, _, hg, _⟩
    · rw [q] at e; cases e
    · rw [q] at e
      cases e
      exact hne (hb.unique ⟨cur, hg⟩))
  refine ⟨⟨g.os.trans h.lat.os, g.tape.trans h.lat.tape, g.output.trans h.lat.output, Nat.le_trans h.lat.size g.size, fun b hb => ?_⟩, h.xo.block g.size (hk _ _ h.ty1 (by decide)), h.ty1.block (hk _ _ h.ty1 (by decide)), h.xc.block g.size (hk _ _ h.ty2 (by decide)), h.ty2.block (hk _ _ h.ty2 (by decide)), h.xa.block g.size (hk _ _ h.ty3 (by decide)), h.ty3.block (hk _ _ h.ty3 (by decide)), by rw [List.length_append, List.map_append]; exact o, fun r hr => ?_, by rw [List.length_append, List.length_append, h.cl]; rfl, h.ol, h.kl, h.ll, h.base, h.ap⟩
  · rw [g.block b (Nat.lt_of_lt_of_le hb h.lat.size) (fun e => by have := (h.own.lt b e.symm).1; omega), h.lat.block b hb]
  · rcases Nat.lt_or_ge r hs.length with q | q
    · obtain ⟨r1, r2, r3⟩ := h.rows r q
      have e1 : (cs ++ [c]).getD r [] = cs.getD r [] := by rw [List.getD_eq_getElem?_getD, List.getD_eq_getElem?_getD, List.getElem?_append_left (by rw [h.cl]; exact q)]
      rw [List.getElem_append_left q, e1]
      exact ⟨r1.block g.size (hk _ _ r2 (by decide)), r2.block (hk _ _ r2 (by decide)), r3⟩
    · have hr' : r = hs.length := by rw [List.length_append] at hr; simp at hr; omega
      subst hr'
      have e1 : (cs ++ [c]).getD hs.length [] = c := by rw [← h.cl, List.getD_eq_getElem?_getD, List.getElem?_append_right (Nat.le_refl _), Nat.sub_self]; rfl
      rw [List.getElem_append_right (Nat.le_refl _), e1]
      simp only [Nat.sub_self, List.getElem_cons_zero]
      exact ⟨hx.block g.size (hk _ _ ht (by decide)), ht.block (hk _ _ ht (by decide)), hl⟩
/-- The row of cuts, read. -/
theorem Ds.row (h : Ds W w go gc ga n zo zc al cv hs cs) (r : Nat) (hr : r < hs.length) : ∃ g c, cv = .slice (some ⟨g, 0, none⟩) hs.length c ∧ w.cell? ⟨g, r, none⟩ = some (.slice (some ⟨hs[r], 0, none⟩) n n) ∧ g < w.heap.size := by
  rcases h.own.2 with ⟨_, q⟩ | ⟨g, c, cur, rfl, hb, hg, _⟩
  · omega
  · refine ⟨g, c, rfl, ?_, (Array.getElem?_eq_some_iff.1 hg).1⟩
    rw [h.own.cellAt r (by omega), List.getElem?_map, List.getElem?_eq_getElem hr]
    rfl
end
end Go.Proofs.Ythammngddmkhhaa
