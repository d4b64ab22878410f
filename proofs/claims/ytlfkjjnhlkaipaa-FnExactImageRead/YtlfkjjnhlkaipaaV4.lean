/- repeat over numbers; places of maps. -/
import Derived.Test.YtlfkjjnhlkaipaaV3
namespace Go.Proofs.Ytlfkjjnhlkaipaa
open Go.RowKit Go.Lib Go.Maps

/-- What a list that was read leaves. -/
def LsP {X : Type} (B R : Nat) (w : World) (k : Nat) (dats : List X → List Dat) (r : List X × RS) (e : Ending) (w' : World) : Prop := ∃ a c F, e = .returned (.slice a r.1.length c) ∧ Own w.heap.size w' (.list k (dats r.1)) [.slice a r.1.length c] F ∧ Rb B w' R r.2 ∧ OnlyK R w w'
theorem only_grown {R : Nat} {w w1 w2 : World} {u : Value} (h : OnlyK R w w1) (hg : w1.grownBy w2 u.ownBlock) (hn : ∀ g, u.ownBlock = some g → w.heap.size ≤ g) : OnlyK R w w2 :=
  ⟨hg.os.trans h.os, hg.tape.trans h.tape, hg.output.trans h.output, Nat.le_trans h.size hg.size, fun k hk hk' => by
    rw [hg.block k (Nat.lt_of_lt_of_le hk h.size) (fun e => by have := hn k e.symm; omega)]
    exact h.block k hk hk'⟩
theorem In.dats_app (l : List In) (x : In) : In.dats (l ++ [x]) = In.dats l ++ [Dat.int x] := by
  unfold In.dats
  rw [List.map_append]
  rfl
set_option maxRecDepth 20000 in
set_option maxHeartbeats 2000000 in
theorem repIn_any {B : Nat} {w : World} {R : Nat} {s : RS} (h : Rb B w R s) (n : Nat) (hn : n ≤ 65535) :
    Calls Try.prog 91 #[.pointer (some ⟨R, 0, none⟩), .int .i64 (n : Int), .func (.func 46) #[.pointer (some ⟨R, 0, none⟩)] #[]] w (LsP B R w 1 In.dats (rep rdIn n s)) := by
  have HZ : Hid (∀ w' a m c F l t, rep rdIn n s = (l, t) → m = l.length → Own w.heap.size w' (.list 1 (In.dats l)) [.slice a m c] F → Rb B w' R t → OnlyK R w w' → LsP B R w 1 In.dats (rep rdIn n s) (.returned (.slice a m c)) w') := fun w' a m c F l t e hm ho hr o => by rw [e]; subst hm; exact ⟨a, c, F, rfl, ho, hr, o⟩
  generalize LsP B R w 1 In.dats (rep rdIn n s) = Q at *
  obtain ⟨i0, hi, hz0, hz1, hz2⟩ := info_parts Try.info3
  have hBw := h.hB
  have hRB := h.lt
  go_enter Try.func91, Try.ntmps91
  go_wp2_with fail
  go_loopw [7, 9] (fun v i wr => ∃ (j : Nat) (l : List In) (xs : List Value) (F : List Nat) (t : RS) (lv : Value), lv = v ∧ i = .int .i64 (j : Int) ∧ j ≤ n ∧ Bd w.heap.size wr 3 1 lv (In.dats l) xs F ∧ Rb B wr R t ∧ OnlyK R w wr ∧ Hid (l.length ≤ j ∧ rep rdIn n s = (l ++ (rep rdIn (n - j) t).1, (rep rdIn (n - j) t).2))) (fun _ i _ => n - (intOf i).toNat)
  case atStart => exact ⟨0, [], [], [], s, _, rfl, rfl, Nat.zero_le _, Bd.nil _ _ _ _, h, OnlyK.refl _ _, ⟨Nat.zero_le _, by rw [List.nil_append, Nat.sub_zero]⟩⟩
  case round =>
    clear h
    obtain ⟨j, l, xs, F, t, lv, rfl, rfl, hj, hB, hR, oR, HR⟩ := hrel
    have hrow := hB.row
    obtain ⟨m, hm⟩ := hidx (In.dats l).length
    rw [← hm.out] at hrow
    have hml : m = l.length := by rw [hm.out, In.dats_len]
    have hmj : m ≤ j := by rw [hml]; exact HR.out.1
    have HML : Hid (m = l.length) := hml
    clear hml
    obtain ⟨ra, rc, rfl⟩ := row_form hrow
    have cf := hR.c1
    have HE : Hid (rep rdIn n s = (l ++ (rep rdIn (n - j) t).1, (rep rdIn (n - j) t).2)) := HR.out.2
    have HD : Hid (∀ w2, OnlyK R w w2 → Bd w.heap.size w2 3 1 (.slice ra m rc) (In.dats l) xs F → Rb B w2 R t → rep rdIn (n - j) t = ([], t) → Q (.returned (.slice ra m rc)) w2) := fun w2 o2 b2 r2 e2 => by
      obtain ⟨G, hG⟩ := b2.done (by rw [In.dats_len, ← HML.out]; omega)
      exact HZ.out w2 ra m rc G l t (by rw [HE.out, e2, List.append_nil]) HML.out hG r2 o2
    by_cases hlt : j < n
    · have i1 : (j : Int) < (n : Int) := by omega
      have hlR : R < wr.heap.size := Nat.lt_of_lt_of_le hRB hR.hB
      cases hf : t.fin with
      | true =>
        rw [hf] at cf
        have HQ := HD.out wr oR hB hR (rep_fin _ _ hf)
        clear HD HE HR HZ hB hR
        go_wp2_with fail
        exact HQ
      | false =>
        rw [hf] at cf
        have hst : rep rdIn (n - j) t = ((rdIn t).1 :: (rep rdIn (n - (j + 1)) (rdIn t).2).1, (rep rdIn (n - (j + 1)) (rdIn t).2).2) := by rw [show n - j = (n - (j + 1)) + 1 by omega, rep, if_neg (by rw [hf]; simp)]
        go_wp2_with fail
        refine (number_any hR).mono ?_
        rintro e w1 ⟨rfl, hR1, o1⟩
        have hk1 : Kept w.heap.size wr w1 := ⟨o1.size, fun b hb hl => o1.block b hl (by omega)⟩
        have oW := oR.trans o1
        have hO2 : Own wr.heap.size w1 (Dat.int (rdIn t).1) [.int .i64 (nx16 t)] [] := Own.mk' (by rw [OwnD]; exact ⟨rfl, rfl⟩) (Fr.nil _ _)
        have HPU : Hid (∀ v9 w9, w9.ownsRow w.heap.size 3 1 v9 (m + 1) (xs ++ [.int .i64 (nx16 t)]) → (w1.alloc (.cells #[.int .i64 (nx16 t)] 3)).grownBy w9 (Value.slice ra m rc).ownBlock → (v9.ownBlock = (Value.slice ra m rc).ownBlock ∨ v9.ownBlock = some (w1.alloc (.cells #[.int .i64 (nx16 t)] 3)).heap.size) → ∃ F9, Bd w.heap.size w9 3 1 v9 (In.dats (l ++ [(rdIn t).1])) (xs ++ [.int .i64 (nx16 t)]) F9 ∧ Rb B w9 R (rdIn t).2 ∧ OnlyK R w w9 ∧ Hid ((l ++ [(rdIn t).1]).length ≤ j + 1 ∧ rep rdIn n s = (l ++ [(rdIn t).1] ++ (rep rdIn (n - (j + 1)) (rdIn t).2).1, (rep rdIn (n - (j + 1)) (rdIn t).2).2))) := fun v9 w9 o9 g9 h9 => by
          rw [In.dats_app]
          have hvb : ∀ g, (Value.slice ra m rc).ownBlock = some g → w.heap.size ≤ g := fun g hg => (hrow.lt g hg).1
          refine ⟨_, Bd.push hB rfl hO2 hk1 ((later1 w1 _).kept _) oR.size (by rw [In.dats_len, ← HML.out]; exact o9) g9 h9, ?_, only_grown (oW.alloc _) g9 hvb, ⟨by rw [List.length_append, List.length_singleton, ← HML.out]; omega, by rw [HE.out, hst, List.append_assoc]; rfl⟩⟩
          refine (hR1.later (later1 w1 _)).below ⟨g9.os, g9.tape, g9.output, g9.size, fun b hb => g9.block b ?_ (fun e => ?_)⟩
          · have := hR1.hB; have := (later1 w1 (.cells #[.int .i64 (nx16 t)] 3)).size; omega
          · have := hvb b e.symm; omega
        have hrA := row_kept hrow hk1
        have bA : w.heap.size ≤ w1.heap.size := oW.size
        clear HD HE HR HZ hB hR hst hO2 hR1 hk1
        go_wp2_with (at_builtin; refine wpList_append_own_at _ rfl _ _ 23 rfl w.heap.size 3 i0 (.int .i64 0) 1 8 Try.underlying23 hi hz0 hz1 hz2 rfl (by decide) _ _ _ rfl (hrA.alloc _) _ 1 1 [.int .i64 (nx16 t)] rfl rfl (new_row _ _ _ (by simp)) (by simp [Value.oneCell']) (by unfold maxLen; omega) (by omega) (Nat.le_trans bA (later1 _ _).size) ?_; intro v9 w9 o9 g9 _ h9; obtain ⟨F9, B9, R9, O9, H9⟩ := HPU.out _ _ o9 g9 h9; obtain ⟨a9, p9, hv9⟩ := row_form o9; rw [hv9] at B9 ⊢; clear o9 g9 h9 HPU)
        go_roundw
        case rel => exact ⟨j + 1, _, _, _, _, _, rfl, by go_num, by omega, B9, R9, O9, H9⟩
        case measure => simp [intOf]; omega
    · have i1 : ¬ (j : Int) < (n : Int) := by omega
      have i2 : decide ((j : Int) < (n : Int)) = false := decide_eq_false i1
      have HQ := HD.out wr oR hB hR (by rw [show n - j = 0 by omega]; rfl)
      clear HD HE HR HZ hB hR
      go_wp2_with fail
      exact HQ
end Go.Proofs.Ytlfkjjnhlkaipaa
