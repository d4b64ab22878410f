/- By the model: do all edges lead to blocks; which blocks are reached without one. -/
import Derived.Test.YthammngddmkhhaaZ9
namespace Go.Proofs.Ythammngddmkhhaa
open Go.RowKit

set_option maxRecDepth 20000 in
set_option maxHeartbeats 2000000 in
theorem slead_any (x : Fc) (a0 a1 : Option Addr) (n0 p0 n1 p1 : Nat) (zrk zrn : Int) (v2 : Value) (w : World) (h : RdL w 5 v2 (Bl.dats x.blocks)) :
    Calls Try.prog 16 #[.agg #[.slice a0 n0 p0, .int .i64 zrk, .int .i64 zrn, .slice a1 n1 p1, v2]] w (LeadP x w) := by
  obtain ⟨a, cap, rfl, hl⟩ := Bl.slice h
  obtain ⟨n, hnb⟩ := hid_ex2 x.blocks.length
  rw [← hnb.out] at h hl ⊢
  have HN : Hid (∀ w' (k : Nat) (hk : k < x.blocks.length) (m : Nat) (hm : m < x.blocks[k].out.length), Later w w' → ¬ (0 ≤ x.blocks[k].out[m].to ∧ x.blocks[k].out[m].to < (n : Int)) → LeadP x w (.returned (.bool false)) w') := fun w' k hk m hm l hn => ⟨false, rfl, ⟨fun q => (by cases q), fun q => absurd (by rw [hnb.out]; exact q k hk _ (List.getElem_mem hm)) hn⟩, l⟩
  have HY : Hid (∀ w', Later w w' → (∀ (k : Nat) (hk : k < x.blocks.length), ∀ e ∈ x.blocks[k].out, 0 ≤ e.to ∧ e.to < (n : Int)) → LeadP x w (.returned (.bool true)) w') := fun w' l hy => ⟨true, rfl, ⟨fun _ => (by rw [hnb.out] at hy; exact hy), fun _ => rfl⟩, l⟩
  have L1 := later1 w (.cells #[.slice a0 n0 p0, .int .i64 zrk, .int .i64 zrn, .slice a1 n1 p1, .slice a n cap] 37)
  have h1 := RdL.later L1 h
  have y4 : (w.alloc (.cells #[.slice a0 n0 p0, .int .i64 zrk, .int .i64 zrn, .slice a1 n1 p1, .slice a n cap] 37)).cell? ⟨w.heap.size, 4, none⟩ = some (.slice a n cap) := by simp
  generalize hQ : LeadP x w = Q at *
  clear hQ h
  go_enter Try.func16, Try.ntmps16
  go_upto_region 1 with fail
  generalize w.alloc (.cells #[.slice a0 n0 p0, .int .i64 zrk, .int .i64 zrn, .slice a1 n1 p1, .slice a n cap] 37) = w1 at *
  go_wp2_with fail
  go_loop [3] (fun i => ∃ (j : Nat), i = .int .i64 (j : Int) ∧ j ≤ n ∧ Hid (∀ (k : Nat) (hk : k < x.blocks.length), k < j → ∀ e ∈ x.blocks[k].out, 0 ≤ e.to ∧ e.to < (n : Int))) (fun i => n - (intOf i).toNat)
  case atStart => exact ⟨0, rfl, Nat.zero_le _, fun k _ hk => absurd hk (Nat.not_lt_zero _)⟩
  case round =>
    obtain ⟨j, rfl, hj, hH⟩ := hrel
    by_cases hlt : j < n
    · have hjb : j < x.blocks.length := by have := hnb.out; omega
      obtain ⟨g, off, v0, v1, v2, v3, e1, hg, c0, c1, c2, c3, c4, r0, r1, r2, r3⟩ := Bl.elem h1 j hjb
      subst e1
      obtain ⟨a3, p3, rfl, hl3⟩ := Ed.slice r3
      have i1 : (j : Int) < (n : Int) := by omega
      clear r0 r1 r2 c0 c1 c2 c3
      go_wp2_with fail
      go_loop [4] (fun i => ∃ (m : Nat), i = .int .i64 (m : Int) ∧ m ≤ x.blocks[j].out.length ∧ Hid (∀ (q : Nat) (hq : q < x.blocks[j].out.length), q < m → 0 ≤ x.blocks[j].out[q].to ∧ x.blocks[j].out[q].to < (n : Int))) (fun i => x.blocks[j].out.length - (intOf i).toNat)
      case atStart => exact ⟨0, rfl, Nat.zero_le _, fun q _ hq => absurd hq (Nat.not_lt_zero _)⟩
      case round =>
        obtain ⟨m, rfl, hm, hI⟩ := hrel
        by_cases hlt2 : m < x.blocks[j].out.length
        · obtain ⟨g', off', u0, e', hg', d0, d1, s0⟩ := Ed.elem r3 m hlt2
          subst e'
          have i2 : (m : Int) < (x.blocks[j].out.length : Int) := by omega
          obtain ⟨T, hT⟩ := hid_ex2 x.blocks[j].out[m].to
          rw [← hT.out] at d0
          by_cases hok : 0 ≤ T ∧ T < (n : Int)
          · have hI2 : Hid (∀ (q : Nat) (hq : q < x.blocks[j].out.length), q < m + 1 → 0 ≤ x.blocks[j].out[q].to ∧ x.blocks[j].out[q].to < (n : Int)) := fun q hq hqm => by
              rcases Nat.lt_or_ge q m with z | z
              · exact hI.out q hq z
              · obtain rfl : q = m := by omega
                rw [← hT.out]; exact hok
            have k1 : ¬ T < 0 := by omega
            have k2 : ¬ (n : Int) ≤ T := by omega
            clear hok
            go_wp2_with fail
            go_round
            case rel => exact ⟨m + 1, by go_num, by omega, hI2⟩
            case measure => simp [intOf]; omega
          · have HA := HN.out w1 j hjb m hlt2 L1 (by rw [← hT.out]; exact hok)
            clear HN HY
            by_cases k1 : T < 0
            · clear hok
              go_wp2_with fail
              exact HA
            · have k2 : (n : Int) ≤ T := by omega
              clear hok
              go_wp2_with fail
              exact HA
        · have i2 : ¬ (m : Int) < (x.blocks[j].out.length : Int) := by omega
          have i3 : decide ((m : Int) < (x.blocks[j].out.length : Int)) = false := decide_eq_false i2
          have hH2 : Hid (∀ (k : Nat) (hk : k < x.blocks.length), k < j + 1 → ∀ e ∈ x.blocks[k].out, 0 ≤ e.to ∧ e.to < (n : Int)) := fun k hk hkj e he => by
            rcases Nat.lt_or_ge k j with z | z
            · exact hH.out k hk z e he
            · obtain rfl : k = j := by omega
              obtain ⟨q, hq, rfl⟩ := List.getElem_of_mem he
              exact hI.out q hq (by omega)
          go_wp2_with fail
          go_round
          case rel => exact ⟨j + 1, by go_num, by omega, hH2⟩
          case measure => simp [intOf]; omega
    · have i1 : ¬ (j : Int) < (n : Int) := by omega
      have HA := HY.out w1 L1 (fun k hk => hH.out k hk (by have := hnb.out; omega))
      clear HN HY
      go_wp2_with fail
      exact HA

/-- A block whose cells are of one type. -/
def RT (w : World) (g : Nat) (t : TypeId) : Prop := ∃ cs, w.heap[g]? = some (.cells cs t (0, 0))
theorem RT.block {w w' : World} {g : Nat} {t : TypeId} (h : RT w g t) (e : w'.heap[g]? = w.heap[g]?) : RT w' g t := by obtain ⟨cs, h⟩ := h; exact ⟨cs, by rw [e]; exact h⟩
theorem RT.later {w w' : World} {g : Nat} {t : TypeId} (h : RT w g t) (l : Later w w') : RT w' g t := h.block (l.block g (by obtain ⟨cs, h⟩ := h; exact (Array.getElem?_eq_some_iff.1 h).1))
theorem RT.set {w : World} {g : Nat} {t : TypeId} (h : RT w g t) (g' o : Nat) (v : Value) : RT (w.setCell ⟨g', o, none⟩ v) g t := by
  obtain ⟨cs, h⟩ := h
  by_cases e : g = g'
  · subst e; exact ⟨_, heap_setCell_same w g o cs t v h⟩
  · exact ⟨cs, by rw [Below.heap_setCell _ _ _ _ e]; exact h⟩
theorem RT.unique {w : World} {g : Nat} {t t' : TypeId} (h : RT w g t) (k : RT w g t') : t = t' := by
  obtain ⟨cs, h⟩ := h
  obtain ⟨cs', k⟩ := k
  rw [h] at k
  cases k
  rfl
/-- What a look for what is reached holds: seen, and a list. -/
structure Rs (W w : World) (B gs : Nat) (lv : Value) (n : Nat) (sn : List Bool) (li : List Nat) : Prop where
  lat : Later W w
  xs : RB w gs sn
  rt : RT w gs 4
  own : w.ownsRow B 3 1 lv li.length (li.map vn)
  sl : sn.length = n
  base : W.heap.size ≤ gs
  top : gs < B
  bs : B ≤ w.heap.size
section
variable {W w w' : World} {B gs : Nat} {lv : Value} {n : Nat} {sn : List Bool} {li : List Nat}
theorem Rs.later (h : Rs W w B gs lv n sn li) (l : Later w w') : Rs W w' B gs lv n sn li := ⟨h.lat.trans l, h.xs.later l, h.rt.later l, own_block h.own (fun g _ hg => l.block g hg), h.sl, h.base, h.top, Nat.le_trans h.bs l.size⟩
theorem Rs.mark (h : Rs W w B gs lv n sn li) (b : Nat) (hb : b < n) : Rs W (w.setCell ⟨gs, b, none⟩ (.bool true)) B gs lv n (sn.set b true) li :=
  ⟨Later.setAt h.lat h.base _ _, h.xs.set b (by rw [h.sl]; exact hb) true, h.rt.set _ _ _, own_block h.own (fun b hb _ => Below.heap_setCell _ _ _ _ (fun e => by have : b = gs := e; have := h.top; omega)), by rw [List.length_set]; exact h.sl, h.base, h.top, by rw [World.size_setCell]; exact h.bs⟩
theorem Rs.put (h : Rs W w B gs lv n sn li) {v' : Value} {b : Nat} (o : w'.ownsRow B 3 1 v' (li.length + 1) (li.map vn ++ [.int .i64 (b : Int)])) (g : w.grownBy w' lv.ownBlock) : Rs W w' B gs v' n sn (li ++ [b]) := by
  have hlow : ∀ b, b < B → w'.heap[b]? = w.heap[b]? := fun b hb => g.block b (Nat.lt_of_lt_of_le hb h.bs) (fun e => by
    have := (h.own.lt b e.symm).1
    omega)
  have ht := h.top
  have hb := h.base
  exact ⟨⟨g.os.trans h.lat.os, g.tape.trans h.lat.tape, g.output.trans h.lat.output, Nat.le_trans h.lat.size g.size, fun b hb' => by rw [hlow b (by omega), h.lat.block b hb']⟩, h.xs.block g.size (hlow gs ht), h.rt.block (hlow gs ht), by rw [List.length_append, List.map_append]; exact o, h.sl, hb, ht, Nat.le_trans h.bs g.size⟩
theorem Rs.liCell (h : Rs W w B gs lv n sn li) (j : Nat) (hj : j < li.length) : ∃ g c, lv = .slice (some ⟨g, 0, none⟩) li.length c ∧ w.cell? ⟨g, j, none⟩ = some (.int .i64 ((li.getD j 0 : Nat) : Int)) ∧ g < w.heap.size := by
  rcases h.own.2 with ⟨_, q⟩ | ⟨g, c, cur, rfl, hb, hg, _⟩
  · omega
  · refine ⟨g, c, rfl, ?_, (Array.getElem?_eq_some_iff.1 hg).1⟩
    rw [h.own.cellAt j (by omega), List.getElem?_map, List.getElem?_eq_getElem hj, List.getD_eq_getElem?_getD, List.getElem?_eq_getElem hj]
    rfl
end
/-- Looked through so far: k of the list whole, of the next one the edges in D. -/
structure Bfs (E : Nat → Nat → Prop) (av : Nat → Prop) (n : Nat) (sn : List Bool) (li : List Nat) (k : Nat) (D : Nat → Nat → Prop) : Prop where
  nodup : li.Nodup
  bound : ∀ i ∈ li, i < n
  seen : ∀ i, sg sn i = true ↔ i ∈ li
  rc : ∀ i ∈ li, Rc E av i
  zero : 0 ∈ li
  done : ∀ r (hr : r < li.length), r < k → ∀ j, E li[r] j → ¬ av j → j ∈ li
  part : ∀ a j, D a j → ¬ av j → j ∈ li
theorem Bfs.skip {E : Nat → Nat → Prop} {av : Nat → Prop} {n : Nat} {sn : List Bool} {li : List Nat} {k : Nat} {D D' : Nat → Nat → Prop} (h : Bfs E av n sn li k D) (hd : ∀ a j, D' a j → ¬ av j → D a j ∨ sg sn j = true) : Bfs E av n sn li k D' :=
  { h with part := fun a j hj hn => (hd a j hj hn).elim (fun q => h.part a j q hn) (fun q => (h.seen j).1 q) }
theorem Bfs.add {E : Nat → Nat → Prop} {av : Nat → Prop} {n : Nat} {sn : List Bool} {li : List Nat} {k : Nat} {D D' : Nat → Nat → Prop} (h : Bfs E av n sn li k D) (hsl : sn.length = n) {a t : Nat} (hk : k ≤ li.length) (ha : a ∈ li) (hE : E a t) (ht : ¬ av t) (htn : t < n) (hs : sg sn t = false) (hd : ∀ a j, D' a j → D a j ∨ j = t) : Bfs E av n (sn.set t true) (li ++ [t]) k D' := by
  have hnm : t ∉ li := fun q => by rw [(h.seen t).2 q] at hs; cases hs
  refine ⟨List.nodup_append.2 ⟨h.nodup, by simp, fun x hx y hy e => hnm (by rw [← List.mem_singleton.1 hy, ← e]; exact hx)⟩, fun i hi => ?_, fun i => ?_, fun i hi => ?_, List.mem_append_left _ h.zero, fun r hr hrk j hj hn => ?_, fun a j hj hn => ?_⟩
  · rcases List.mem_append.1 hi with q | q
    · exact h.bound i q
    · rw [List.mem_singleton.1 q]; exact htn
  · rw [sg_set (by rw [hsl]; exact htn), List.mem_append, List.mem_singleton]
    unfold setB
    by_cases q : i = t
    · rw [if_pos q]; exact ⟨fun _ => .inr q, fun _ => rfl⟩
    · rw [if_neg q, h.seen i]; exact ⟨.inl, fun r => r.elim id (fun s => absurd s q)⟩
  · rcases List.mem_append.1 hi with q | q
    · exact h.rc i q
    · rw [List.mem_singleton.1 q]; exact .step (h.rc a ha) hE ht
  · have hr' : r < li.length := by omega
    rw [List.getElem_append_left hr'] at hj
    exact List.mem_append_left _ (h.done r hr' hrk j hj hn)
  · rcases hd a j hj with q | q
    · exact List.mem_append_left _ (h.part a j q hn)
    · rw [q]; simp
theorem Bfs.next {E : Nat → Nat → Prop} {av : Nat → Prop} {n : Nat} {sn : List Bool} {li : List Nat} {k : Nat} {D : Nat → Nat → Prop} (h : Bfs E av n sn li k D) (hk : k < li.length) (hd : ∀ j, E li[k] j → D li[k] j) : Bfs E av n sn li (k + 1) (fun _ _ => False) :=
  { h with
    done := fun r hr hrk j hj hn => by
      rcases Nat.lt_or_ge r k with z | z
      · exact h.done r hr z j hj hn
      · obtain rfl : r = k := by omega
        exact h.part _ j (hd j hj) hn
    part := fun _ _ q => q.elim }
theorem Bfs.all {E : Nat → Nat → Prop} {av : Nat → Prop} {n : Nat} {sn : List Bool} {li : List Nat} {k : Nat} {D : Nat → Nat → Prop} (h : Bfs E av n sn li k D) (hk : li.length ≤ k) (i : Nat) : sg sn i = true ↔ Rc E av i := by
  rw [h.seen]
  refine ⟨h.rc i, fun q => ?_⟩
  induction q with
  | zero _ => exact h.zero
  | step _ hE hn ih =>
    obtain ⟨r, hr, e⟩ := List.getElem_of_mem ih
    exact h.done r hr (by omega) _ (by rw [e]; exact hE) hn
end Go.Proofs.Ythammngddmkhhaa
