/- Bools; fields of structs; repeat over them. -/
import Derived.Test.YtlfkjjnhlkaipaaV5
namespace Go.Proofs.Ytlfkjjnhlkaipaa
open Go.RowKit Go.Lib Go.Maps

def BoP (B R : Nat) (w : World) (x : Bool) (t : RS) (e : Ending) (w' : World) : Prop := e = .returned (.bool x) ∧ Rb B w' R t ∧ OnlyK R w w'
set_option maxRecDepth 20000 in
set_option maxHeartbeats 1000000 in
theorem bo1_any {B : Nat} {w : World} {R X : Nat} {s : RS} (h : Rb B w R s) (hX : w.cell? ⟨X, 0, none⟩ = some (.pointer (some ⟨R, 0, none⟩)) ∧ X < w.heap.size) (_ : X ≠ R) :
    Calls Try.prog 73 #[.pointer (some ⟨X, 0, none⟩)] w (BoP B R w (rdBo s).1 (rdBo s).2) := by
  have HY : Hid (∀ w' n, n = nx8 s → Rb B w' R (tkS 1 s) → OnlyK R w w' → BoP B R w (rdBo s).1 (rdBo s).2 (.returned (.bool (n == 1))) w') := fun w' n e r o => by subst e; exact ⟨rfl, r, o⟩
  generalize BoP B R w (rdBo s).1 (rdBo s).2 = Q at *
  obtain ⟨hc, hl⟩ := hX
  have HN := next8_any h
  clear h
  go_enter Try.func73, Try.ntmps73
  go_wp2_with fail
  refine HN.mono ?_
  rintro e w1 ⟨rfl, h1, o1⟩
  have HZ := HY.out w1 _ rfl h1 o1
  generalize nx8 s = n at *
  go_wp2_with fail
  exact HZ
theorem Bo.dats_app (l : List Bo) (x : Bo) : Bo.dats (l ++ [x]) = Bo.dats l ++ [Dat.bool x] := by
  unfold Bo.dats
  rw [List.map_append]
  rfl
set_option maxRecDepth 20000 in
set_option maxHeartbeats 2000000 in
theorem repBo_any {B : Nat} {w : World} {R : Nat} {s : RS} (h : Rb B w R s) (n : Nat) (hn : n ≤ 65535) (X : Nat) (hX : X ≠ R) (hXl : X < w.heap.size) (hXc : w.cell? ⟨X, 0, none⟩ = some (.pointer (some ⟨R, 0, none⟩))) :
    Calls Try.prog 72 #[.pointer (some ⟨R, 0, none⟩), .int .i64 (n : Int), .func (.func 73) #[] #[.pointer (some ⟨X, 0, none⟩)]] w (LsP B R w 1 Bo.dats (rep rdBo n s)) := by
  have HZ : Hid (∀ w' a m c F l t, rep rdBo n s = (l, t) → m = l.length → Own w.heap.size w' (.list 1 (Bo.dats l)) [.slice a m c] F → Rb B w' R t → OnlyK R w w' → LsP B R w 1 Bo.dats (rep rdBo n s) (.returned (.slice a m c)) w') := fun w' a m c F l t e hm ho hr o => by rw [e]; subst hm; exact ⟨a, c, F, rfl, ho, hr, o⟩
  generalize LsP B R w 1 Bo.dats (rep rdBo n s) = Q at *
  obtain ⟨i0, hi, hz0, hz1, hz2⟩ := info_parts Try.info4
  have bx : ∀ w', OnlyK R w w' → w'.cell? ⟨X, 0, none⟩ = some (.pointer (some ⟨R, 0, none⟩)) ∧ X < w'.heap.size := fun w' o => ⟨by rw [World.cell?_of_block (a := ⟨X, 0, none⟩) (o.block X hXl hX)]; exact hXc, Nat.lt_of_lt_of_le hXl o.size⟩
  have hBw := h.hB
  have hRB := h.lt
  go_enter Try.func72, Try.ntmps72
  go_wp2_with fail
  go_loopw [7, 9] (fun v i wr => ∃ (j : Nat) (l : List Bo) (xs : List Value) (F : List Nat) (t : RS) (lv : Value), lv = v ∧ i = .int .i64 (j : Int) ∧ j ≤ n ∧ Bd w.heap.size wr 4 1 lv (Bo.dats l) xs F ∧ Rb B wr R t ∧ OnlyK R w wr ∧ Hid (l.length ≤ j ∧ rep rdBo n s = (l ++ (rep rdBo (n - j) t).1, (rep rdBo (n - j) t).2))) (fun _ i _ => n - (intOf i).toNat)
  case atStart => exact ⟨0, [], [], [], s, _, rfl, rfl, Nat.zero_le _, Bd.nil _ _ _ _, h, OnlyK.refl _ _, ⟨Nat.zero_le _, by rw [List.nil_append, Nat.sub_zero]⟩⟩
  case round =>
    clear h
    obtain ⟨j, l, xs, F, t, lv, rfl, rfl, hj, hB, hR, oR, HR⟩ := hrel
    have hrow := hB.row
    obtain ⟨m, hm⟩ := hidx (Bo.dats l).length
    rw [← hm.out] at hrow
    have hml : m = l.length := by rw [hm.out, Bo.dats_len]
    have hmj : m ≤ j := by rw [hml]; exact HR.out.1
    have HML : Hid (m = l.length) := hml
    clear hml
    obtain ⟨ra, rc, rfl⟩ := row_form hrow
    have cf := hR.c1
    have HE : Hid (rep rdBo n s = (l ++ (rep rdBo (n - j) t).1, (rep rdBo (n - j) t).2)) := HR.out.2
    have HD : Hid (∀ w2, OnlyK R w w2 → Bd w.heap.size w2 4 1 (.slice ra m rc) (Bo.dats l) xs F → Rb B w2 R t → rep rdBo (n - j) t = ([], t) → Q (.returned (.slice ra m rc)) w2) := fun w2 o2 b2 r2 e2 => by
      obtain ⟨G, hG⟩ := b2.done (by rw [Bo.dats_len, ← HML.out]; omega)
      exact HZ.out w2 ra m rc G l t (by rw [HE.out, e2, List.append_nil]) HML.out hG r2 o2
    by_cases hlt : j < n
    · have i1 : (j : Int) < (n : Int) := by omega
      have hlR : R < wr.heap.size := Nat.lt_of_lt_of_le hRB hR.hB
      cases hf : t.fin with
      | true =>
        rw [hf] at cf
        have HQ := HD.out wr oR hB hR (rep_fin _ _ hf)
        clear HD HE HR HZ hB hR
        go_wp2_with fail
        exact HQ
      | false =>
        rw [hf] at cf
        have hst : rep rdBo (n - j) t = ((rdBo t).1 :: (rep rdBo (n - (j + 1)) (rdBo t).2).1, (rep rdBo (n - (j + 1)) (rdBo t).2).2) := by rw [show n - j = (n - (j + 1)) + 1 by omega, rep, if_neg (by rw [hf]; simp)]
        go_wp2_with fail
        refine (bo1_any hR (bx wr oR) hX).mono ?_
        rintro e w1 ⟨rfl, hR1, o1⟩
        have hk1 : Kept w.heap.size wr w1 := ⟨o1.size, fun b hb hl => o1.block b hl (by omega)⟩
        have oW := oR.trans o1
        have hO2 : Own wr.heap.size w1 (Dat.bool (rdBo t).1) [.bool (rdBo t).1] [] := Own.mk' (by rw [OwnD]; exact ⟨rfl, rfl⟩) (Fr.nil _ _)
        have HPU : Hid (∀ v9 w9, w9.ownsRow w.heap.size 4 1 v9 (m + 1) (xs ++ [.bool (rdBo t).1]) → (w1.alloc (.cells #[.bool (rdBo t).1] 4)).grownBy w9 (Value.slice ra m rc).ownBlock → (v9.ownBlock = (Value.slice ra m rc).ownBlock ∨ v9.ownBlock = some (w1.alloc (.cells #[.bool (rdBo t).1] 4)).heap.size) → ∃ F9, Bd w.heap.size w9 4 1 v9 (Bo.dats (l ++ [(rdBo t).1])) (xs ++ [.bool (rdBo t).1]) F9 ∧ Rb B w9 R (rdBo t).2 ∧ OnlyK R w w9 ∧ Hid ((l ++ [(rdBo t).1]).length ≤ j + 1 ∧ rep rdBo n s = (l ++ [(rdBo t).1] ++ (rep rdBo (n - (j + 1)) (rdBo t).2).1, (rep rdBo (n - (j + 1)) (rdBo t).2).2))) := fun v9 w9 o9 g9 h9 => by
          rw [Bo.dats_app]
          have hvb : ∀ g, (Value.slice ra m rc).ownBlock = some g → w.heap.size ≤ g := fun g hg => (hrow.lt g hg).1
          refine ⟨_, Bd.push hB rfl hO2 hk1 ((later1 w1 _).kept _) oR.size (by rw [Bo.dats_len, ← HML.out]; exact o9) g9 h9, ?_, only_grown (oW.alloc _) g9 hvb, ⟨by rw [List.length_append, List.length_singleton, ← HML.out]; omega, by rw [HE.out, hst, List.append_assoc]; rfl⟩⟩
          refine (hR1.later (later1 w1 _)).below ⟨g9.os, g9.tape, g9.output, g9.size, fun b hb => g9.block b ?_ (fun e => ?_)⟩
          · have := hR1.hB; have := (later1 w1 (.cells #[.bool (rdBo t).1] 4)).size; omega
          · have := hvb b e.symm; omega
        have hrA := row_kept hrow hk1
        have bA : w.heap.size ≤ w1.heap.size := oW.size
        clear HD HE HR HZ hB hR hst hO2 hR1 hk1
        go_wp2_with (at_builtin; refine wpList_append_own_at _ rfl _ _ 54 rfl w.heap.size 4 i0 (.bool false) 1 1 Try.underlying54 hi hz0 hz1 hz2 rfl (by decide) _ _ _ rfl (hrA.alloc _) _ 1 1 [.bool (rdBo t).1] rfl rfl (new_row _ _ _ (by simp)) (by simp [Value.oneCell']) (by unfold maxLen; omega) (by omega) (Nat.le_trans bA (later1 _ _).size) ?_; intro v9 w9 o9 g9 _ h9; obtain ⟨F9, B9, R9, O9, H9⟩ := HPU.out _ _ o9 g9 h9; obtain ⟨a9, p9, hv9⟩ := row_form o9; rw [hv9] at B9 ⊢; clear o9 g9 h9 HPU)
        go_roundw
        case rel => exact ⟨j + 1, _, _, _, _, _, rfl, by go_num, by omega, B9, R9, O9, H9⟩
        case measure => simp [intOf]; omega
    · have i1 : ¬ (j : Int) < (n : Int) := by omega
      have i2 : decide ((j : Int) < (n : Int)) = false := decide_eq_false i1
      have HQ := HD.out wr oR hB hR (by rw [show n - j = 0 by omega]; rfl)
      clear HD HE HR HZ hB hR
      go_wp2_with fail
      exact HQ
end Go.Proofs.Ytlfkjjnhlkaipaa
