/- Instructions; repeat over them. -/
import Derived.Test.YtlfkjjnhlkaipaaV4
namespace Go.Proofs.Ytlfkjjnhlkaipaa
open Go.RowKit Go.Lib Go.Maps

/-- A box: cells that are known and may be written. -/
structure Bxx (w : World) (B : Nat) (xs : List Value) : Prop where
  lt : B < w.heap.size
  cell : ∀ i u, xs[i]? = some u → w.cell? ⟨B, i, none⟩ = some u ∧ w.frozen? ⟨B, i, none⟩ = false
theorem Bxx.new (w : World) (cs : Array Value) (t : TypeId) : Bxx (w.alloc (.cells cs t)) w.heap.size cs.toList := by
  have e : (w.alloc (.cells cs t)).heap[w.heap.size]? = some (.cells cs t) := (MapKept.heap_alloc w _).1
  refine ⟨by simp, fun i u h => ⟨?_, ?_⟩⟩
  · have := new_row w cs t rfl i u h
    rwa [Addr.add_lit, Nat.zero_add] at this
  · unfold World.frozen?
    simp only [e]
    simp
theorem Bxx.later {w w' : World} {B : Nat} {xs : List Value} (h : Bxx w B xs) (hl : Later w w') : Bxx w' B xs :=
  ⟨Nat.lt_of_lt_of_le h.lt hl.size, fun i u hi => by rw [Below.cell hl (p := ⟨B, i, none⟩) h.lt, Below.frozen hl (p := ⟨B, i, none⟩) h.lt]; exact h.cell i u hi⟩
theorem Bxx.kept {w w' : World} {B : Nat} {xs : List Value} (h : Bxx w B xs) (hs : w.heap.size ≤ w'.heap.size) (hb : w'.heap[B]? = w.heap[B]?) : Bxx w' B xs :=
  ⟨Nat.lt_of_lt_of_le h.lt hs, fun i u hi => by rw [World.cell?_of_block (w := w) (w' := w') (a := ⟨B, i, none⟩) hb, World.frozen?_of_block (w := w) (w' := w') (a := ⟨B, i, none⟩) hb]; exact h.cell i u hi⟩
theorem Bxx.only {K : Nat} {w w' : World} {B : Nat} {xs : List Value} (h : Bxx w B xs) (ho : OnlyK K w w') (hK : B ≠ K) : Bxx w' B xs := h.kept ho.size (ho.block B h.lt hK)
theorem Bxx.set {w : World} {B : Nat} {xs : List Value} (h : Bxx w B xs) (i : Nat) (v : Value) (hi : i < xs.length) : Bxx (w.setCell ⟨B, i, none⟩ v) B (xs.set i v) := by
  refine ⟨by rw [World.size_setCell]; exact h.lt, fun j u hj => ?_⟩
  rw [World.frozen?_setCell]
  by_cases e : j = i
  · subst e
    rw [List.getElem?_set_self hi] at hj
    cases hj
    have := h.cell j _ (List.getElem?_eq_getElem hi)
    exact ⟨set_same this.1, this.2⟩
  · rw [List.getElem?_set_ne (Ne.symm e)] at hj
    rw [set_off _ _ _ (Ne.symm e)]
    exact h.cell j u hj
theorem Bxx.other {w : World} {B : Nat} {xs : List Value} (h : Bxx w B xs) {b o : Nat} (hb : B ≠ b) (v : Value) : Bxx (w.setCell ⟨b, o, none⟩ v) B xs := h.kept (by rw [World.size_setCell]; exact Nat.le_refl _) (Below.heap_setCell _ _ _ _ hb)
theorem Bxx.alloc {w : World} {B : Nat} {xs : List Value} (h : Bxx w B xs) (o : Obj) : Bxx (w.alloc o) B xs := h.later (later1 _ _)

theorem OnlyK.setNew {K : Nat} {a w : World} (h : OnlyK K a w) {b : Nat} (hb : a.heap.size ≤ b) (o : Nat) (u : Value) : OnlyK K a (w.setCell ⟨b, o, none⟩ u) :=
  ⟨h.os, h.tape, h.output, by simpa [World.setCell] using h.size, fun k hk hn => (Below.heap_setCell _ _ _ _ (show k ≠ b by omega)).trans (h.block k hk hn)⟩
theorem OnlyK.of_later {K : Nat} {w w' : World} (h : Later w w') : OnlyK K w w' := OnlyK.later h (Nat.le_refl _)
theorem Rb.setNew {B : Nat} {w : World} {R : Nat} {s : RS} (h : Rb B w R s) {b : Nat} (hb : B ≤ b) (o : Nat) (u : Value) : Rb B (w.setCell ⟨b, o, none⟩ u) R s := h.below ((Below.refl _ _).setCell hb u)
def IsP (B R : Nat) (w : World) (x : Is) (t : RS) (e : Ending) (w' : World) : Prop := e = .returned (.agg #[.int .i64 x.op, .int .i64 x.a, .int .i64 x.b, .int .i64 x.c, .int .i64 x.n]) ∧ Rb B w' R t ∧ OnlyK R w w'
set_option maxRecDepth 20000 in
set_option maxHeartbeats 2000000 in
theorem ins_any {B : Nat} {w : World} {R : Nat} {s : RS} (h : Rb B w R s) :
    Calls Try.prog 76 #[.pointer (some ⟨R, 0, none⟩)] w (IsP B R w (rdIs s).1 (rdIs s).2) := by
  obtain ⟨s1, e1⟩ := hidx (tkS 1 s)
  obtain ⟨s2, e2⟩ := hidx (tkS 1 s1)
  obtain ⟨s3, e3⟩ := hidx (tkS 1 s2)
  obtain ⟨s4, e4⟩ := hidx (tkS 1 s3)
  have HY : Hid (∀ w', Rb B w' R (tkS 8 s4) → OnlyK R w w' → IsP B R w (rdIs s).1 (rdIs s).2 (.returned (.agg #[.int .i64 (nx8 s), .int .i64 (nx8 s1), .int .i64 (nx8 s2), .int .i64 (nx8 s3), .int .i64 (nx64 s4)])) w') := fun w' hr o => by
    rw [e4.out, e3.out, e2.out, e1.out] at hr
    rw [e4.out, e3.out, e2.out, e1.out]
    exact ⟨rfl, hr, o⟩
  generalize IsP B R w (rdIs s).1 (rdIs s).2 = Q at *
  have hBw := h.hB
  have hRB := h.lt
  have hK : w.heap.size ≠ R := by omega
  obtain ⟨wa, hwa⟩ := hidx (w.alloc (.cells #[.int .i64 0, .int .i64 0, .int .i64 0, .int .i64 0, .int .i64 0] 60))
  have la : Later w wa := by rw [hwa.out]; exact later1 _ _
  have ha := h.later la
  have hbx : Bxx wa w.heap.size [.int .i64 0, .int .i64 0, .int .i64 0, .int .i64 0, .int .i64 0] := by rw [hwa.out]; exact Bxx.new _ _ _
  have oa : OnlyK R w wa := OnlyK.of_later la
  clear h la
  have HN8 := fun w' t (r : Rb B w' R t) => next8_any r
  have HN64 := fun w' t (r : Rb B w' R t) => next64_any r
  go_enter Try.func76, Try.ntmps76
  go_wp2_with fail
  rw [← hwa.out]
  refine (HN8 _ _ ha).mono ?_
  rintro e w1 ⟨rfl, h1, o1⟩
  rw [← e1.out] at h1
  go_wp2_with fail
  refine (HN8 _ _ h1).mono ?_
  rintro e w2 ⟨rfl, h2, o2⟩
  rw [← e2.out] at h2
  go_wp2_with fail
  refine (HN8 _ _ h2).mono ?_
  rintro e w3 ⟨rfl, h3, o3⟩
  rw [← e3.out] at h3
  go_wp2_with fail
  refine (HN8 _ _ h3).mono ?_
  rintro e w4 ⟨rfl, h4, o4⟩
  rw [← e4.out] at h4
  go_wp2_with fail
  refine (HN64 _ _ h4).mono ?_
  rintro e w5 ⟨rfl, h5, o5⟩
  have hb5 := ((((hbx.only o1 hK).only o2 hK).only o3 hK).only o4 hK).only o5 hK
  have oo := ((((oa.trans o1).trans o2).trans o3).trans o4).trans o5
  have b0 := (hb5.cell 0 _ rfl).1
  have bf0 := (hb5.cell 0 _ rfl).2
  have b1 := (hb5.cell 1 _ rfl).1
  have bf1 := (hb5.cell 1 _ rfl).2
  have b2 := (hb5.cell 2 _ rfl).1
  have bf2 := (hb5.cell 2 _ rfl).2
  have b3 := (hb5.cell 3 _ rfl).1
  have bf3 := (hb5.cell 3 _ rfl).2
  have b4 := (hb5.cell 4 _ rfl).1
  have bf4 := (hb5.cell 4 _ rfl).2
  have bl := hb5.lt
  have HZ := fun w' => HY.out w'
  clear HN8 HN64 hbx oa ha h1 h2 h3 h4
  generalize nx8 s = z0 at *
  generalize nx8 s1 = z1 at *
  generalize nx8 s2 = z2 at *
  generalize nx8 s3 = z3 at *
  generalize nx64 s4 = z4 at *
  go_wp2_with fail
  refine bodyPost_ret (v := .agg #[.int .i64 z0, .int .i64 z1, .int .i64 z2, .int .i64 z3, .int .i64 z4]) (by simp [results, Try.results76, go_sem, b0, b1, b2, b3, b4]) rfl (HZ _ ?_ ?_)
  · repeat (first | with_reducible exact h5 | refine Rb.setNew ?_ (by omega) _ _)
  · repeat (first | with_reducible exact oo | refine OnlyK.setNew ?_ (by omega) _ _)
theorem Is.dats_app (l : List Is) (x : Is) : Is.dats (l ++ [x]) = Is.dats l ++ [Is.dat x] := by
  unfold Is.dats
  rw [List.map_append]
  rfl
set_option maxRecDepth 20000 in
set_option maxHeartbeats 2000000 in
theorem repIs_any {B : Nat} {w : World} {R : Nat} {s : RS} (h : Rb B w R s) (n : Nat) (hn : n ≤ 65535) :
    Calls Try.prog 75 #[.pointer (some ⟨R, 0, none⟩), .int .i64 (n : Int), .func (.func 76) #[.pointer (some ⟨R, 0, none⟩)] #[]] w (LsP B R w 5 Is.dats (rep rdIs n s)) := by
  have HZ : Hid (∀ w' a m c F l t, rep rdIs n s = (l, t) → m = l.length → Own w.heap.size w' (.list 5 (Is.dats l)) [.slice a m c] F → Rb B w' R t → OnlyK R w w' → LsP B R w 5 Is.dats (rep rdIs n s) (.returned (.slice a m c)) w') := fun w' a m c F l t e hm ho hr o => by rw [e]; subst hm; exact ⟨a, c, F, rfl, ho, hr, o⟩
  generalize LsP B R w 5 Is.dats (rep rdIs n s) = Q at *
  obtain ⟨i0, hi, hz0, hz1, hz2⟩ := info_parts Try.info60
  have hBw := h.hB
  have hRB := h.lt
  go_enter Try.func75, Try.ntmps75
  go_wp2_with fail
  go_loopw [7, 9] (fun v i wr => ∃ (j : Nat) (l : List Is) (xs : List Value) (F : List Nat) (t : RS) (lv : Value), lv = v ∧ i = .int .i64 (j : Int) ∧ j ≤ n ∧ Bd w.heap.size wr 60 5 lv (Is.dats l) xs F ∧ Rb B wr R t ∧ OnlyK R w wr ∧ Hid (l.length ≤ j ∧ rep rdIs n s = (l ++ (rep rdIs (n - j) t).1, (rep rdIs (n - j) t).2))) (fun _ i _ => n - (intOf i).toNat)
  case atStart => exact ⟨0, [], [], [], s, _, rfl, rfl, Nat.zero_le _, Bd.nil _ _ _ _, h, OnlyK.refl _ _, ⟨Nat.zero_le _, by rw [List.nil_append, Nat.sub_zero]⟩⟩
  case round =>
    clear h
    obtain ⟨j, l, xs, F, t, lv, rfl, rfl, hj, hB, hR, oR, HR⟩ := hrel
    have hrow := hB.row
    obtain ⟨m, hm⟩ := hidx (Is.dats l).length
    rw [← hm.out] at hrow
    have hml : m = l.length := by rw [hm.out, Is.dats_len]
    have hmj : m ≤ j := by rw [hml]; exact HR.out.1
    have HML : Hid (m = l.length) := hml
    clear hml
    obtain ⟨ra, rc, rfl⟩ := row_form hrow
    have cf := hR.c1
    have HE : Hid (rep rdIs n s = (l ++ (rep rdIs (n - j) t).1, (rep rdIs (n - j) t).2)) := HR.out.2
    have HD : Hid (∀ w2, OnlyK R w w2 → Bd w.heap.size w2 60 5 (.slice ra m rc) (Is.dats l) xs F → Rb B w2 R t → rep rdIs (n - j) t = ([], t) → Q (.returned (.slice ra m rc)) w2) := fun w2 o2 b2 r2 e2 => by
      obtain ⟨G, hG⟩ := b2.done (by rw [Is.dats_len, ← HML.out]; omega)
      exact HZ.out w2 ra m rc G l t (by rw [HE.out, e2, List.append_nil]) HML.out hG r2 o2
    by_cases hlt : j < n
    · have i1 : (j : Int) < (n : Int) := by omega
      have hlR : R < wr.heap.size := Nat.lt_of_lt_of_le hRB hR.hB
      cases hf : t.fin with
      | true =>
        rw [hf] at cf
        have HQ := HD.out wr oR hB hR (rep_fin _ _ hf)
        clear HD HE HR HZ hB hR
        go_wp2_with fail
        exact HQ
      | false =>
        rw [hf] at cf
        have hst : rep rdIs (n - j) t = ((rdIs t).1 :: (rep rdIs (n - (j + 1)) (rdIs t).2).1, (rep rdIs (n - (j + 1)) (rdIs t).2).2) := by rw [show n - j = (n - (j + 1)) + 1 by omega, rep, if_neg (by rw [hf]; simp)]
        go_wp2_with fail
        refine (ins_any hR).mono ?_
        rintro e w1 ⟨rfl, hR1, o1⟩
        have hk1 : Kept w.heap.size wr w1 := ⟨o1.size, fun b hb hl => o1.block b hl (by omega)⟩
        have oW := oR.trans o1
        have hO2 : Own wr.heap.size w1 (Is.dat (rdIs t).1) [.int .i64 (rdIs t).1.op, .int .i64 (rdIs t).1.a, .int .i64 (rdIs t).1.b, .int .i64 (rdIs t).1.c, .int .i64 (rdIs t).1.n] [] := Own.mk' (Is.own _ _) (Fr.nil _ _)
        have HPU : Hid (∀ v9 w9, w9.ownsRow w.heap.size 60 5 v9 (m + 1) (xs ++ [.int .i64 (rdIs t).1.op, .int .i64 (rdIs t).1.a, .int .i64 (rdIs t).1.b, .int .i64 (rdIs t).1.c, .int .i64 (rdIs t).1.n]) → (w1.alloc (.cells #[.int .i64 (rdIs t).1.op, .int .i64 (rdIs t).1.a, .int .i64 (rdIs t).1.b, .int .i64 (rdIs t).1.c, .int .i64 (rdIs t).1.n] 60)).grownBy w9 (Value.slice ra m rc).ownBlock → (v9.ownBlock = (Value.slice ra m rc).ownBlock ∨ v9.ownBlock = some (w1.alloc (.cells #[.int .i64 (rdIs t).1.op, .int .i64 (rdIs t).1.a, .int .i64 (rdIs t).1.b, .int .i64 (rdIs t).1.c, .int .i64 (rdIs t).1.n] 60)).heap.size) → ∃ F9, Bd w.heap.size w9 60 5 v9 (Is.dats (l ++ [(rdIs t).1])) (xs ++ [.int .i64 (rdIs t).1.op, .int .i64 (rdIs t).1.a, .int .i64 (rdIs t).1.b, .int .i64 (rdIs t).1.c, .int .i64 (rdIs t).1.n]) F9 ∧ Rb B w9 R (rdIs t).2 ∧ OnlyK R w w9 ∧ Hid ((l ++ [(rdIs t).1]).length ≤ j + 1 ∧ rep rdIs n s = (l ++ [(rdIs t).1] ++ (rep rdIs (n - (j + 1)) (rdIs t).2).1, (rep rdIs (n - (j + 1)) (rdIs t).2).2))) := fun v9 w9 o9 g9 h9 => by
          rw [Is.dats_app]
          have hvb : ∀ g, (Value.slice ra m rc).ownBlock = some g → w.heap.size ≤ g := fun g hg => (hrow.lt g hg).1
          refine ⟨_, Bd.push hB rfl hO2 hk1 ((later1 w1 _).kept _) oR.size (by rw [Is.dats_len, ← HML.out]; exact o9) g9 h9, ?_, only_grown (oW.alloc _) g9 hvb, ⟨by rw [List.length_append, List.length_singleton, ← HML.out]; omega, by rw [HE.out, hst, List.append_assoc]; rfl⟩⟩
          refine (hR1.later (later1 w1 _)).below ⟨g9.os, g9.tape, g9.output, g9.size, fun b hb => g9.block b ?_ (fun e => ?_)⟩
          · have := hR1.hB; have := (later1 w1 (.cells #[.int .i64 (rdIs t).1.op, .int .i64 (rdIs t).1.a, .int .i64 (rdIs t).1.b, .int .i64 (rdIs t).1.c, .int .i64 (rdIs t).1.n] 60)).size; omega
          · have := hvb b e.symm; omega
        have hrA := row_kept hrow hk1
        have bA : w.heap.size ≤ w1.heap.size := oW.size
        clear HD HE HR HZ hB hR hst hO2 hR1 hk1
        go_wp2_with (at_builtin; refine wpList_append_own_at _ rfl _ _ 55 rfl w.heap.size 60 i0 (.agg #[.int .i64 0, .int .i64 0, .int .i64 0, .int .i64 0, .int .i64 0]) 5 40 Try.underlying55 hi hz0 hz1 hz2 rfl (by decide) _ _ _ rfl (hrA.alloc _) _ 1 1 [.int .i64 (rdIs t).1.op, .int .i64 (rdIs t).1.a, .int .i64 (rdIs t).1.b, .int .i64 (rdIs t).1.c, .int .i64 (rdIs t).1.n] rfl rfl (new_row _ _ _ (by simp)) (by simp [Value.oneCell']) (by unfold maxLen; omega) (by omega) (Nat.le_trans bA (later1 _ _).size) ?_; intro v9 w9 o9 g9 _ h9; obtain ⟨F9, B9, R9, O9, H9⟩ := HPU.out _ _ o9 g9 h9; obtain ⟨a9, p9, hv9⟩ := row_form o9; rw [hv9] at B9 ⊢; clear o9 g9 h9 HPU)
        go_roundw
        case rel => exact ⟨j + 1, _, _, _, _, _, rfl, by go_num, by omega, B9, R9, O9, H9⟩
        case measure => simp [intOf]; omega
    · have i1 : ¬ (j : Int) < (n : Int) := by omega
      have i2 : decide ((j : Int) < (n : Int)) = false := decide_eq_false i1
      have HQ := HD.out wr oR hB hR (by rw [show n - j = 0 by omega]; rfl)
      clear HD HE HR HZ hB hR
      go_wp2_with fail
      exact HQ
end Go.Proofs.Ytlfkjjnhlkaipaa
