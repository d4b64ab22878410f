/- Places of maps; repeat over maps. -/
import Derived.Test.YtlfkjjnhlkaipaaV5
namespace Go.Proofs.Ytlfkjjnhlkaipaa
open Go.RowKit Go.Lib Go.Maps

/-- Two cells of an older block written: what lies in new blocks stays. -/
theorem Own.set1 {base : Nat} {w : World} {d : Dat} {cs : List Value} {F : List Nat} (h : Own base w d cs F) {b : Nat} (hb : b < base) (o : Nat) (u : Value) : Own base (w.setCell ⟨b, o, none⟩ u) d cs F :=
  Own.mk' (h.kept ((Kept.refl _ _).setAt hb o u)) (by rw [World.size_setCell]; exact h.fr)
theorem Own.set2 {base : Nat} {w : World} {d : Dat} {cs : List Value} {F : List Nat} (h : Own base w d cs F) {b : Nat} (hb : b < base) (o : Nat) (u : Value) (o' : Nat) (u' : Value) : Own base ((w.setCell ⟨b, o, none⟩ u).setCell ⟨b, o', none⟩ u') d cs F := (h.set1 hb o u).set1 hb o' u'
def MaP (B R : Nat) (w : World) (r : Ma × RS) (e : Ending) (w' : World) : Prop := ∃ pc a c n F, e = .returned (.agg #[.int .i64 pc, .slice a n c]) ∧ (pc = r.1.pc ∧ n = r.1.slots.length) ∧ Own w.heap.size w' (Ma.dat r.1) [.int .i64 pc, .slice a n c] F ∧ Rb B w' R r.2 ∧ OnlyK R w w'
theorem build_ma (z : Int) (a : Option Addr) (n c : Nat) (w : World) : (Instr.build 63 #[(0, .int .i64 z), (1, .slice a n c)]).run Try.prog w = .ok (.agg #[.int .i64 z, .slice a n c]) w := run_build w 63 _ _ (by kernel_rfl)
set_option maxRecDepth 20000 in
set_option maxHeartbeats 2000000 in
theorem safe_any {B : Nat} {w : World} {R : Nat} {s : RS} (h : Rb B w R s) :
    Calls Try.prog 78 #[.pointer (some ⟨R, 0, none⟩)] w (MaP B R w (rdMa s)) := by
  have hb2 := By.tk h.by8 2
  obtain ⟨n, hn⟩ := Int.eq_ofNat_of_zero_le (nx16_rg hb2).1
  have hn2 : n ≤ 65535 := by have := (nx16_rg hb2).2; omega
  have hbl := build_ma
  have HY : Hid (∀ w' pc a m c F, pc = nx16 s → m = (rep rdIn n (tkS 2 (tkS 2 s))).1.length → Own w.heap.size w' (.list 1 (In.dats (rep rdIn n (tkS 2 (tkS 2 s))).1)) [.slice a m c] F → Rb B w' R (rep rdIn n (tkS 2 (tkS 2 s))).2 → OnlyK R w w' → MaP B R w (rdMa s) (.returned (.agg #[.int .i64 pc, .slice a m c])) w') := fun w' pc a m c F hp hm ho hr o => by
    unfold rdMa
    rw [hn, Int.toNat_natCast]
    subst hp
    exact ⟨_, a, c, m, F, rfl, ⟨rfl, hm⟩, Own.mk' (Ma.own (x := .mk _ _) ho.own) ho.fr, hr, o⟩
  generalize MaP B R w (rdMa s) = Q at *
  have hBw := h.hB
  have hRB := h.lt
  have hK : w.heap.size ≠ R := by omega
  obtain ⟨wa, hwa⟩ := hidx (w.alloc (.cells #[.int .i64 0, .slice none 0 0] 63))
  have la : Later w wa := by rw [hwa.out]; exact later1 _ _
  have hbx : Bxx wa w.heap.size [.int .i64 0, .slice none 0 0] := by rw [hwa.out]; exact Bxx.new _ _ _
  have ha := h.later la
  have oa : OnlyK R w wa := OnlyK.of_later la
  have HN := fun w' t (r : Rb B w' R t) => number_any r
  have HR := fun w' t (r : Rb B w' R t) => repIn_any r n hn2
  clear h la
  go_enter Try.func78, Try.ntmps78
  go_wp2_with fail
  rw [← hwa.out]
  refine (HN _ _ ha).mono ?_
  rintro e w1 ⟨rfl, h1, o1⟩
  go_wp2_with fail
  refine (HN _ _ h1).mono ?_
  rintro e w2 ⟨rfl, h2, o2⟩
  rw [hn]
  go_wp2_with fail
  refine (HR _ _ h2).mono ?_
  rintro e w3 ⟨a3, c3, F3, rfl, ho3, h3, o3⟩
  have hb3 := ((hbx.only o1 hK).only o2 hK).only o3 hK
  have o12 := (oa.trans o1).trans o2
  have oo := o12.trans o3
  have b0 := (hb3.cell 0 _ rfl).1
  have bf0 := (hb3.cell 0 _ rfl).2
  have b1 := (hb3.cell 1 _ rfl).1
  have bf1 := (hb3.cell 1 _ rfl).2
  have bl := hb3.lt
  have hW : ∀ w', OnlyK R w w' → Rb B w' R (rep rdIn n (tkS 2 (tkS 2 s))).2 → Kept w.heap.size w3 w' ∨ True := fun _ _ _ => Or.inr trivial
  clear hW
  have HZ := fun w' (hA : Own w.heap.size w' (.list 1 (In.dats (rep rdIn n (tkS 2 (tkS 2 s))).1)) [.slice a3 (rep rdIn n (tkS 2 (tkS 2 s))).1.length c3] F3) => HY.out w' (nx16 s) a3 _ c3 F3 rfl rfl hA
  have hO := Own.set2 ho3 (b := w.heap.size) (by have := o12.size; have := (oa.trans o1).size; have := oa.size; have := hb3.lt; have := hbx.lt; have := (o1.trans o2).size; omega)
  clear HY HN HR h1 h2 ha hbx
  generalize (rep rdIn n (tkS 2 (tkS 2 s))).1.length = m3 at *
  generalize nx16 s = z at *
  go_wp2_with fail
  refine bodyPost_ret (v := .agg #[.int .i64 z, .slice a3 m3 c3]) (by simp [results, Try.results78, go_sem, b0, b1]) rfl (HZ _ ?_ ?_ ?_)
  · exact (hO _ _ _ _).mono o12.size
  · repeat (first | with_reducible exact h3 | refine Rb.setNew ?_ (by omega) _ _)
  · repeat (first | with_reducible exact oo | refine OnlyK.setNew ?_ (by omega) _ _)
theorem Ma.dats_app (l : List Ma) (x : Ma) : Ma.dats (l ++ [x]) = Ma.dats l ++ [Ma.dat x] := by
  induction l with
  | nil => rfl
  | cons y r ih => rw [List.cons_append, Ma.dats, Ma.dats, ih]; rfl
set_option maxRecDepth 20000 in
set_option maxHeartbeats 2000000 in
theorem repMa_any {B : Nat} {w : World} {R : Nat} {s : RS} (h : Rb B w R s) (n : Nat) (hn : n ≤ 65535) :
    Calls Try.prog 77 #[.pointer (some ⟨R, 0, none⟩), .int .i64 (n : Int), .func (.func 78) #[.pointer (some ⟨R, 0, none⟩)] #[]] w (LsP B R w 2 Ma.dats (rep rdMa n s)) := by
  have HZ : Hid (∀ w' a m c F l t, rep rdMa n s = (l, t) → m = l.length → Own w.heap.size w' (.list 2 (Ma.dats l)) [.slice a m c] F → Rb B w' R t → OnlyK R w w' → LsP B R w 2 Ma.dats (rep rdMa n s) (.returned (.slice a m c)) w') := fun w' a m c F l t e hm ho hr o => by rw [e]; subst hm; exact ⟨a, c, F, rfl, ho, hr, o⟩
  generalize LsP B R w 2 Ma.dats (rep rdMa n s) = Q at *
  obtain ⟨i0, hi, hz0, hz1, hz2⟩ := info_parts Try.info63
  have hBw := h.hB
  have hRB := h.lt
  go_enter Try.func77, Try.ntmps77
  go_wp2_with fail
  go_loopw [7, 9] (fun v i wr => ∃ (j : Nat) (l : List Ma) (xs : List Value) (F : List Nat) (t : RS) (lv : Value), lv = v ∧ i = .int .i64 (j : Int) ∧ j ≤ n ∧ Bd w.heap.size wr 63 2 lv (Ma.dats l) xs F ∧ Rb B wr R t ∧ OnlyK R w wr ∧ Hid (l.length ≤ j ∧ rep rdMa n s = (l ++ (rep rdMa (n - j) t).1, (rep rdMa (n - j) t).2))) (fun _ i _ => n - (intOf i).toNat)
  case atStart => exact ⟨0, [], [], [], s, _, rfl, rfl, Nat.zero_le _, Bd.nil _ _ _ _, h, OnlyK.refl _ _, ⟨Nat.zero_le _, by rw [List.nil_append, Nat.sub_zero]⟩⟩
  case round =>
    clear h
    obtain ⟨j, l, xs, F, t, lv, rfl, rfl, hj, hB, hR, oR, HR⟩ := hrel
    have hrow := hB.row
    obtain ⟨m, hm⟩ := hidx (Ma.dats l).length
    rw [← hm.out] at hrow
    have hml : m = l.length := by rw [hm.out, Ma.dats_len]
    have hmj : m ≤ j := by rw [hml]; exact HR.out.1
    have HML : Hid (m = l.length) := hml
    clear hml
    obtain ⟨ra, rc, rfl⟩ := row_form hrow
    have cf := hR.c1
    have HE : Hid (rep rdMa n s = (l ++ (rep rdMa (n - j) t).1, (rep rdMa (n - j) t).2)) := HR.out.2
    have HD : Hid (∀ w2, OnlyK R w w2 → Bd w.heap.size w2 63 2 (.slice ra m rc) (Ma.dats l) xs F → Rb B w2 R t → rep rdMa (n - j) t = ([], t) → Q (.returned (.slice ra m rc)) w2) := fun w2 o2 b2 r2 e2 => by
      obtain ⟨G, hG⟩ := b2.done (by rw [Ma.dats_len, ← HML.out]; omega)
      exact HZ.out w2 ra m rc G l t (by rw [HE.out, e2, List.append_nil]) HML.out hG r2 o2
    by_cases hlt : j < n
    · have i1 : (j : Int) < (n : Int) := by omega
      have hlR : R < wr.heap.size := Nat.lt_of_lt_of_le hRB hR.hB
      cases hf : t.fin with
      | true =>
        rw [hf] at cf
        have HQ := HD.out wr oR hB hR (rep_fin _ _ hf)
        clear HD HE HR HZ hB hR
        go_wp2_with fail
        exact HQ
      | false =>
        rw [hf] at cf
        have hst : rep rdMa (n - j) t = ((rdMa t).1 :: (rep rdMa (n - (j + 1)) (rdMa t).2).1, (rep rdMa (n - (j + 1)) (rdMa t).2).2) := by rw [show n - j = (n - (j + 1)) + 1 by omega, rep, if_neg (by rw [hf]; simp)]
        go_wp2_with fail
        refine (safe_any hR).mono ?_
        rintro e w1 ⟨pc, a1, c1, n1, G1, rfl, hN1, hO1, hR1, o1⟩
        clear hN1
        have hk1 : Kept w.heap.size wr w1 := ⟨o1.size, fun b hb hl => o1.block b hl (by omega)⟩
        have oW := oR.trans o1
        have hO2 : Own wr.heap.size w1 (Ma.dat (rdMa t).1) [.int .i64 pc, .slice a1 n1 c1] G1 := hO1
        have HPU : Hid (∀ v9 w9, w9.ownsRow w.heap.size 63 2 v9 (m + 1) (xs ++ [.int .i64 pc, .slice a1 n1 c1]) → (w1.alloc (.cells #[.int .i64 pc, .slice a1 n1 c1] 63)).grownBy w9 (Value.slice ra m rc).ownBlock → (v9.ownBlock = (Value.slice ra m rc).ownBlock ∨ v9.ownBlock = some (w1.alloc (.cells #[.int .i64 pc, .slice a1 n1 c1] 63)).heap.size) → ∃ F9, Bd w.heap.size w9 63 2 v9 (Ma.dats (l ++ [(rdMa t).1])) (xs ++ [.int .i64 pc, .slice a1 n1 c1]) F9 ∧ Rb B w9 R (rdMa t).2 ∧ OnlyK R w w9 ∧ Hid ((l ++ [(rdMa t).1]).length ≤ j + 1 ∧ rep rdMa n s = (l ++ [(rdMa t).1] ++ (rep rdMa (n - (j + 1)) (rdMa t).2).1, (rep rdMa (n - (j + 1)) (rdMa t).2).2))) := fun v9 w9 o9 g9 h9 => by
          rw [Ma.dats_app]
          have hvb : ∀ g, (Value.slice ra m rc).ownBlock = some g → w.heap.size ≤ g := fun g hg => (hrow.lt g hg).1
          refine ⟨_, Bd.push hB rfl hO2 hk1 ((later1 w1 _).kept _) oR.size (by rw [Ma.dats_len, ← HML.out]; exact o9) g9 h9, ?_, only_grown (oW.alloc _) g9 hvb, ⟨by rw [List.length_append, List.length_singleton, ← HML.out]; omega, by rw [HE.out, hst, List.append_assoc]; rfl⟩⟩
          refine (hR1.later (later1 w1 _)).below ⟨g9.os, g9.tape, g9.output, g9.size, fun b hb => g9.block b ?_ (fun e => ?_)⟩
          · have := hR1.hB; have := (later1 w1 (.cells #[.int .i64 pc, .slice a1 n1 c1] 63)).size; omega
          · have := hvb b e.symm; omega
        have hrA := row_kept hrow hk1
        have bA : w.heap.size ≤ w1.heap.size := oW.size
        clear HD HE HR HZ hB hR hst hO2 hR1 hk1
        go_wp2_with (at_builtin; refine wpList_append_own_at _ rfl _ _ 56 rfl w.heap.size 63 i0 (.agg #[.int .i64 0, .slice none 0 0]) 2 32 Try.underlying56 hi hz0 hz1 hz2 rfl (by decide) _ _ _ rfl (hrA.alloc _) _ 1 1 [.int .i64 pc, .slice a1 n1 c1] rfl rfl (new_row _ _ _ (by simp)) (by simp [Value.oneCell']) (by unfold maxLen; omega) (by omega) (Nat.le_trans bA (later1 _ _).size) ?_; intro v9 w9 o9 g9 _ h9; obtain ⟨F9, B9, R9, O9, H9⟩ := HPU.out _ _ o9 g9 h9; obtain ⟨a9, p9, hv9⟩ := row_form o9; rw [hv9] at B9 ⊢; clear o9 g9 h9 HPU)
        go_roundw
        case rel => exact ⟨j + 1, _, _, _, _, _, rfl, by go_num, by omega, B9, R9, O9, H9⟩
        case measure => simp [intOf]; omega
    · have i1 : ¬ (j : Int) < (n : Int) := by omega
      have i2 : decide ((j : Int) < (n : Int)) = false := decide_eq_false i1
      have HQ := HD.out wr oR hB hR (by rw [show n - j = 0 by omega]; rfl)
      clear HD HE HR HZ hB hR
      go_wp2_with fail
      exact HQ
end Go.Proofs.Ytlfkjjnhlkaipaa
