/- The fields of a struct; repeat over structs. -/
import Derived.Test.YtlfkjjnhlkaipaaV6
namespace Go.Proofs.Ytlfkjjnhlkaipaa
open Go.RowKit Go.Lib Go.Maps

def BsP (B R : Nat) (w : World) (r : Bs × RS) (e : Ending) (w' : World) : Prop := ∃ a c n F, e = .returned (.slice a n c) ∧ n = r.1.l.length ∧ Own w.heap.size w' (Bs.dat r.1) [.slice a n c] F ∧ Rb B w' R r.2 ∧ OnlyK R w w'
set_option maxRecDepth 20000 in
set_option maxHeartbeats 2000000 in
theorem fields_any {B : Nat} {w : World} {R : Nat} {s : RS} (h : Rb B w R s) :
    Calls Try.prog 48 #[.pointer (some ⟨R, 0, none⟩)] w (BsP B R w (rdBs s)) := by
  obtain ⟨n, hn⟩ := Int.eq_ofNat_of_zero_le (nx16_rg h.by8).1
  have hn2 : n ≤ 65535 := by have := (nx16_rg h.by8).2; omega
  have HY : Hid (∀ w' a m c F, m = (rep rdBo n (tkS 2 s)).1.length → Own w.heap.size w' (.list 1 (Bo.dats (rep rdBo n (tkS 2 s)).1)) [.slice a m c] F → Rb B w' R (rep rdBo n (tkS 2 s)).2 → OnlyK R w w' → BsP B R w (rdBs s) (.returned (.slice a m c)) w') := fun w' a m c F hm ho hr o => by
    unfold rdBs
    rw [hn, Int.toNat_natCast]
    exact ⟨a, c, m, F, rfl, hm, Own.mk' (Bs.own (x := .mk _) ho.own) ho.fr, hr, o⟩
  generalize BsP B R w (rdBs s) = Q at *
  have hBw := h.hB
  have hRB := h.lt
  have hK : w.heap.size ≠ R := by omega
  obtain ⟨wa, hwa⟩ := hidx (w.alloc (.cells #[.pointer (some ⟨R, 0, none⟩)] 87))
  have la : Later w wa := by rw [hwa.out]; exact later1 _ _
  have hbx : Bxx wa w.heap.size [.pointer (some ⟨R, 0, none⟩)] := by rw [hwa.out]; exact Bxx.new _ _ _
  have ldr := la.trans (Later.drew wa)
  have ha := h.later ldr
  have hbd := hbx.later (Later.drew wa)
  have oa : OnlyK R w wa.drew := OnlyK.of_later ldr
  have x0 := (hbx.cell 0 _ rfl).1
  have xl := hbx.lt
  have HN := number_any ha
  rw [hn] at HN
  have HR := fun w' t (r : Rb B w' R t) (l : w.heap.size < w'.heap.size) (c : w'.cell? ⟨w.heap.size, 0, none⟩ = some (.pointer (some ⟨R, 0, none⟩))) => repBo_any r n hn2 w.heap.size hK l c
  clear h la ldr hn
  go_enter Try.func48, Try.ntmps48
  go_wp2_with fail
  rw [← hwa.out]
  go_region_law (first | (go_simp; go_at_call 46; refine HN.mono ?_; rintro e w1 ⟨rfl, h1, o1⟩; have hb1 := hbd.only o1 hK; have y0 := (hb1.cell 0 _ rfl).1; have yl := hb1.lt) | (go_simp; go_at_call 72; refine (HR _ _ h1 yl y0).mono ?_; rintro e w2 ⟨a2, c2, F2, rfl, ho2, h2, o2⟩))
  all_goals
    have hw1 : w.heap.size ≤ w1.heap.size := (oa.trans o1).size
    have HZ := HY.out w2 a2 _ c2 F2 rfl (ho2.mono hw1) h2 ((oa.trans o1).trans o2)
    clear HY HN HR ho2 h2 h1 ha
    generalize (rep rdBo n (tkS 2 s)).1.length = m2 at *
    go_wp2_with fail
    go_ret
    exact HZ
theorem Bs.dats_app (l : List Bs) (x : Bs) : Bs.dats (l ++ [x]) = Bs.dats l ++ [Bs.dat x] := by
  induction l with
  | nil => rfl
  | cons y r ih => rw [List.cons_append, Bs.dats, Bs.dats, ih]; rfl
set_option maxRecDepth 20000 in
set_option maxHeartbeats 2000000 in
theorem repBs_any {B : Nat} {w : World} {R : Nat} {s : RS} (h : Rb B w R s) (n : Nat) (hn : n ≤ 65535) :
    Calls Try.prog 47 #[.pointer (some ⟨R, 0, none⟩), .int .i64 (n : Int), .func (.func 48) #[.pointer (some ⟨R, 0, none⟩)] #[]] w (LsP B R w 1 Bs.dats (rep rdBs n s)) := by
  have HZ : Hid (∀ w' a m c F l t, rep rdBs n s = (l, t) → m = l.length → Own w.heap.size w' (.list 1 (Bs.dats l)) [.slice a m c] F → Rb B w' R t → OnlyK R w w' → LsP B R w 1 Bs.dats (rep rdBs n s) (.returned (.slice a m c)) w') := fun w' a m c F l t e hm ho hr o => by rw [e]; subst hm; exact ⟨a, c, F, rfl, ho, hr, o⟩
  generalize LsP B R w 1 Bs.dats (rep rdBs n s) = Q at *
  obtain ⟨i0, hi, hz0, hz1, hz2⟩ := info_parts Try.info54
  have hBw := h.hB
  have hRB := h.lt
  go_enter Try.func47, Try.ntmps47
  go_wp2_with fail
  go_loopw [7, 9] (fun v i wr => ∃ (j : Nat) (l : List Bs) (xs : List Value) (F : List Nat) (t : RS) (lv : Value), lv = v ∧ i = .int .i64 (j : Int) ∧ j ≤ n ∧ Bd w.heap.size wr 54 1 lv (Bs.dats l) xs F ∧ Rb B wr R t ∧ OnlyK R w wr ∧ Hid (l.length ≤ j ∧ rep rdBs n s = (l ++ (rep rdBs (n - j) t).1, (rep rdBs (n - j) t).2))) (fun _ i _ => n - (intOf i).toNat)
  case atStart => exact ⟨0, [], [], [], s, _, rfl, rfl, Nat.zero_le _, Bd.nil _ _ _ _, h, OnlyK.refl _ _, ⟨Nat.zero_le _, by rw [List.nil_append, Nat.sub_zero]⟩⟩
  case round =>
    clear h
    obtain ⟨j, l, xs, F, t, lv, rfl, rfl, hj, hB, hR, oR, HR⟩ := hrel
    have hrow := hB.row
    obtain ⟨m, hm⟩ := hidx (Bs.dats l).length
    rw [← hm.out] at hrow
    have hml : m = l.length := by rw [hm.out, Bs.dats_len]
    have hmj : m ≤ j := by rw [hml]; exact HR.out.1
    have HML : Hid (m = l.length) := hml
    clear hml
    obtain ⟨ra, rc, rfl⟩ := row_form hrow
    have cf := hR.c1
    have HE : Hid (rep rdBs n s = (l ++ (rep rdBs (n - j) t).1, (rep rdBs (n - j) t).2)) := HR.out.2
    have HD : Hid (∀ w2, OnlyK R w w2 → Bd w.heap.size w2 54 1 (.slice ra m rc) (Bs.dats l) xs F → Rb B w2 R t → rep rdBs (n - j) t = ([], t) → Q (.returned (.slice ra m rc)) w2) := fun w2 o2 b2 r2 e2 => by
      obtain ⟨G, hG⟩ := b2.done (by rw [Bs.dats_len, ← HML.out]; omega)
      exact HZ.out w2 ra m rc G l t (by rw [HE.out, e2, List.append_nil]) HML.out hG r2 o2
    by_cases hlt : j < n
    · have i1 : (j : Int) < (n : Int) := by omega
      have hlR : R < wr.heap.size := Nat.lt_of_lt_of_le hRB hR.hB
      cases hf : t.fin with
      | true =>
        rw [hf] at cf
        have HQ := HD.out wr oR hB hR (rep_fin _ _ hf)
        clear HD HE HR HZ hB hR
        go_wp2_with fail
        exact HQ
      | false =>
        rw [hf] at cf
        have hst : rep rdBs (n - j) t = ((rdBs t).1 :: (rep rdBs (n - (j + 1)) (rdBs t).2).1, (rep rdBs (n - (j + 1)) (rdBs t).2).2) := by rw [show n - j = (n - (j + 1)) + 1 by omega, rep, if_neg (by rw [hf]; simp)]
        go_wp2_with fail
        refine (fields_any hR).mono ?_
        rintro e w1 ⟨a1, c1, n1, G1, rfl, hN1, hO1, hR1, o1⟩
        clear hN1
        have hk1 : Kept w.heap.size wr w1 := ⟨o1.size, fun b hb hl => o1.block b hl (by omega)⟩
        have oW := oR.trans o1
        have hO2 : Own wr.heap.size w1 (Bs.dat (rdBs t).1) [.slice a1 n1 c1] G1 := hO1
        have HPU : Hid (∀ v9 w9, w9.ownsRow w.heap.size 54 1 v9 (m + 1) (xs ++ [.slice a1 n1 c1]) → (w1.alloc (.cells #[.slice a1 n1 c1] 54)).grownBy w9 (Value.slice ra m rc).ownBlock → (v9.ownBlock = (Value.slice ra m rc).ownBlock ∨ v9.ownBlock = some (w1.alloc (.cells #[.slice a1 n1 c1] 54)).heap.size) → ∃ F9, Bd w.heap.size w9 54 1 v9 (Bs.dats (l ++ [(rdBs t).1])) (xs ++ [.slice a1 n1 c1]) F9 ∧ Rb B w9 R (rdBs t).2 ∧ OnlyK R w w9 ∧ Hid ((l ++ [(rdBs t).1]).length ≤ j + 1 ∧ rep rdBs n s = (l ++ [(rdBs t).1] ++ (rep rdBs (n - (j + 1)) (rdBs t).2).1, (rep rdBs (n - (j + 1)) (rdBs t).2).2))) := fun v9 w9 o9 g9 h9 => by
          rw [Bs.dats_app]
          have hvb : ∀ g, (Value.slice ra m rc).ownBlock = some g → w.heap.size ≤ g := fun g hg => (hrow.lt g hg).1
          refine ⟨_, Bd.push hB rfl hO2 hk1 ((later1 w1 _).kept _) oR.size (by rw [Bs.dats_len, ← HML.out]; exact o9) g9 h9, ?_, only_grown (oW.alloc _) g9 hvb, ⟨by rw [List.length_append, List.length_singleton, ← HML.out]; omega, by rw [HE.out, hst, List.append_assoc]; rfl⟩⟩
          refine (hR1.later (later1 w1 _)).below ⟨g9.os, g9.tape, g9.output, g9.size, fun b hb => g9.block b ?_ (fun e => ?_)⟩
          · have := hR1.hB; have := (later1 w1 (.cells #[.slice a1 n1 c1] 54)).size; omega
          · have := hvb b e.symm; omega
        have hrA := row_kept hrow hk1
        have bA : w.heap.size ≤ w1.heap.size := oW.size
        clear HD HE HR HZ hB hR hst hO2 hR1 hk1
        go_wp2_with (at_builtin; refine wpList_append_own_at _ rfl _ _ 29 rfl w.heap.size 54 i0 (.slice none 0 0) 1 24 Try.underlying29 hi hz0 hz1 hz2 rfl (by decide) _ _ _ rfl (hrA.alloc _) _ 1 1 [.slice a1 n1 c1] rfl rfl (new_row _ _ _ (by simp)) (by simp [Value.oneCell']) (by unfold maxLen; omega) (by omega) (Nat.le_trans bA (later1 _ _).size) ?_; intro v9 w9 o9 g9 _ h9; obtain ⟨F9, B9, R9, O9, H9⟩ := HPU.out _ _ o9 g9 h9; obtain ⟨a9, p9, hv9⟩ := row_form o9; rw [hv9] at B9 ⊢; clear o9 g9 h9 HPU)
        go_roundw
        case rel => exact ⟨j + 1, _, _, _, _, _, rfl, by go_num, by omega, B9, R9, O9, H9⟩
        case measure => simp [intOf]; omega
    · have i1 : ¬ (j : Int) < (n : Int) := by omega
      have i2 : decide ((j : Int) < (n : Int)) = false := decide_eq_false i1
      have HQ := HD.out wr oR hB hR (by rw [show n - j = 0 by omega]; rfl)
      clear HD HE HR HZ hB hR
      go_wp2_with fail
      exact HQ
end Go.Proofs.Ytlfkjjnhlkaipaa
