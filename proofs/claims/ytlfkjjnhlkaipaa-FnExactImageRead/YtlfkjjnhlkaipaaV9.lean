/- Codes; repeat over codes. -/
import Derived.Test.YtlfkjjnhlkaipaaV8
namespace Go.Proofs.Ytlfkjjnhlkaipaa
open Go.RowKit Go.Lib Go.Maps

def CdP (B R : Nat) (w : World) (r : Cd × RS) (e : Ending) (w' : World) : Prop := ∃ zf zp a1 c1 n1 a2 c2 n2 F, e = .returned (.agg #[.int .i64 zf, .int .i64 zp, .slice a1 n1 c1, .slice a2 n2 c2]) ∧ (zf = r.1.frame ∧ zp = r.1.params ∧ n1 = r.1.ins.length ∧ n2 = r.1.maps.length) ∧ Own w.heap.size w' (Cd.dat r.1) [.int .i64 zf, .int .i64 zp, .slice a1 n1 c1, .slice a2 n2 c2] F ∧ Rb B w' R r.2 ∧ OnlyK R w w'
theorem build_cd (z z' : Int) (w : World) : (Instr.build 58 #[(0, .int .i64 z), (1, .int .i64 z')]).run Try.prog w = .ok (.agg #[.int .i64 z, .int .i64 z', .slice none 0 0, .slice none 0 0]) w := run_build w 58 _ _ (by kernel_rfl)
set_option maxRecDepth 20000 in
set_option maxHeartbeats 4000000 in
theorem rcode_any {B : Nat} {w : World} {R : Nat} {s : RS} (h : Rb B w R s) :
    Calls Try.prog 50 #[.pointer (some ⟨R, 0, none⟩)] w (CdP B R w (rdCd s)) := by
  obtain ⟨s1, e1⟩ := hidx (tkS 2 s)
  obtain ⟨s2, e2⟩ := hidx (tkS 2 s1)
  obtain ⟨s3, e3⟩ := hidx (tkS 2 s2)
  obtain ⟨s4, e4⟩ := hidx (tkS 2 s3)
  have hb2 : s2.By := by rw [e2.out, e1.out]; exact By.tk (By.tk h.by8 2) 2
  have hb3 : s3.By := by rw [e3.out]; exact By.tk hb2 2
  obtain ⟨ni, hni⟩ := Int.eq_ofNat_of_zero_le (nx16_rg hb2).1
  have hni2 : ni ≤ 65535 := by have := (nx16_rg hb2).2; omega
  obtain ⟨nm, hnm⟩ := Int.eq_ofNat_of_zero_le (nx16_rg hb3).1
  have hnm2 : nm ≤ 65535 := by have := (nx16_rg hb3).2; omega
  have hbl := build_cd
  obtain ⟨ri, hri⟩ := hidx (rep rdIs ni s4)
  obtain ⟨rm, hrm⟩ := hidx (rep rdMa nm ri.2)
  have HY : Hid (∀ w' zf zp a1 m1 c1 a2 m2 c2 F, zf = nx16 s → zp = nx16 s1 → m1 = ri.1.length → m2 = rm.1.length → OwnD w' (Cd.dat (.mk zf zp ri.1 rm.1)) [.int .i64 zf, .int .i64 zp, .slice a1 m1 c1, .slice a2 m2 c2] F → Fr w.heap.size w'.heap.size F → Rb B w' R rm.2 → OnlyK R w w' → CdP B R w (rdCd s) (.returned (.agg #[.int .i64 zf, .int .i64 zp, .slice a1 m1 c1, .slice a2 m2 c2])) w') := fun w' zf zp a1 m1 c1 a2 m2 c2 F hf hp h1 h2 ho fr hr o => by
    have q1 : cdIs s = ri := by unfold cdIs cd4; rw [← e1.out, ← e2.out, ← e3.out, ← e4.out, hni, Int.toNat_natCast, hri.out]
    have q2 : cdMa s = rm := by unfold cdMa; rw [q1, ← e1.out, ← e2.out, ← e3.out, hnm, Int.toNat_natCast, hrm.out]
    unfold rdCd
    rw [q1, q2, ← e1.out, ← hf, ← hp]
    exact ⟨_, _, a1, c1, m1, a2, c2, m2, F, rfl, ⟨rfl, rfl, h1, h2⟩, Own.mk' ho fr, hr, o⟩
  generalize CdP B R w (rdCd s) = Q at *
  have hBw := h.hB
  have hRB := h.lt
  have hK : w.heap.size ≠ R := by omega
  obtain ⟨wa, hwa⟩ := hidx (w.alloc (.cells #[.int .i64 0, .int .i64 0, .slice none 0 0, .slice none 0 0] 58))
  have la : Later w wa := by rw [hwa.out]; exact later1 _ _
  have hbx : Bxx wa w.heap.size [.int .i64 0, .int .i64 0, .slice none 0 0, .slice none 0 0] := by rw [hwa.out]; exact Bxx.new _ _ _
  have ha := h.later la
  have oa : OnlyK R w wa := OnlyK.of_later la
  have HN := fun w' t (r : Rb B w' R t) => number_any r
  have HI := fun w' (r : Rb B w' R s4) => repIs_any r ni hni2
  have HM := fun w' (r : Rb B w' R ri.2) => repMa_any r nm hnm2
  rw [← hri.out] at HI
  rw [← hrm.out] at HM
  clear h la hb2 hb3
  go_enter Try.func50, Try.ntmps50
  go_wp2_with fail
  rw [← hwa.out]
  refine (HN _ _ ha).mono ?_
  rintro e w1 ⟨rfl, h1, o1⟩
  rw [← e1.out] at h1
  go_wp2_with fail
  refine (HN _ _ h1).mono ?_
  rintro e w2 ⟨rfl, h2, o2⟩
  rw [← e2.out] at h2
  generalize nx16 s = zf at *
  generalize nx16 s1 = zp at *
  have o12 := (oa.trans o1).trans o2
  have hbA := (hbx.only o1 hK).only o2 hK
  have sA := hbA.lt
  obtain ⟨wb, hwb⟩ := hidx (w2.alloc (.cells #[.int .i64 zf, .int .i64 zp, .slice none 0 0, .slice none 0 0] 58))
  have lb : Later w2 wb := by rw [hwb.out]; exact later1 _ _
  have hcx : Bxx wb w2.heap.size [.int .i64 zf, .int .i64 zp, .slice none 0 0, .slice none 0 0] := by rw [hwb.out]; exact Bxx.new _ _ _
  have hbB := hbA.later lb
  have h2b := h2.later lb
  have ob := o12.trans (OnlyK.of_later lb)
  obtain ⟨C, hC⟩ := hidx w2.heap.size
  rw [← hC.out] at hcx
  have hCR : C ≠ R := by rw [hC.out]; have := o12.size; omega
  have hwC : w.heap.size < C := by rw [hC.out]; exact sA
  have hCw : w.heap.size ≤ C := Nat.le_of_lt hwC
  have hBC : B ≤ C := by omega
  go_wp2_with fail
  rw [← hwb.out, ← hC.out]
  refine (HN _ _ h2b).mono ?_
  rintro e w3 ⟨rfl, h3, o3⟩
  rw [← e3.out] at h3
  rw [hni]
  go_wp2_with fail
  refine (HN _ _ h3).mono ?_
  rintro e w4 ⟨rfl, h4, o4⟩
  rw [← e4.out] at h4
  rw [hnm]
  go_wp2_with fail
  refine (HI _ h4).mono ?_
  rintro e w5 ⟨a5, c5, F5, rfl, ho5, h5, o5⟩
  have hc5 := ((hcx.only o3 hCR).only o4 hCR).only o5 hCR
  have hb5 := ((hbB.only o3 hK).only o4 hK).only o5 hK
  have o25 := ((ob.trans o3).trans o4).trans o5
  have o24 := (ob.trans o3).trans o4
  have hC4 : C < w4.heap.size := ((hcx.only o3 hCR).only o4 hCR).lt
  obtain ⟨m5, hm5⟩ := hidx ri.1.length
  rw [← hm5.out] at ho5 ⊢
  have hc6 := hc5.set 2 (.slice a5 m5 c5) (by simp)
  have hb6 := hb5.other (b := C) (o := 2) (by omega) (.slice a5 m5 c5)
  have ho6 := ho5.set1 hC4 2 (.slice a5 m5 c5)
  have h6 := h5.setNew hBC 2 (.slice a5 m5 c5)
  have o6 := o25.setNew hCw 2 (.slice a5 m5 c5)
  have k2 := (hc5.cell 2 _ rfl).1
  have kf2 := (hc5.cell 2 _ rfl).2
  have k3 := (hc5.cell 3 _ rfl).1
  have kf3 := (hc5.cell 3 _ rfl).2
  have kl := hc5.lt
  have s56 : w5.heap.size ≤ (w5.setCell ⟨C, 2, none⟩ (.slice a5 m5 c5)).heap.size := by simp
  go_wp2_with fail
  generalize w5.setCell ⟨C, 2, none⟩ (.slice a5 m5 c5) = w6 at *
  clear k2 kf2 k3 kf3 kl
  refine (HM _ h6).mono ?_
  rintro e w7 ⟨a7, c7, F7, rfl, ho7, h7, o7⟩
  obtain ⟨m7, hm7⟩ := hidx rm.1.length
  rw [← hm7.out] at ho7 ⊢
  have hc7 := hc6.only o7 hCR
  have hb7 := hb6.only o7 hK
  have o17 := o6.trans o7
  have hC6 : C < w6.heap.size := hc6.lt
  have hk7 : Kept w4.heap.size w6 w7 := ⟨o7.size, fun b hb hl => o7.block b hl (by have := hC4; have := o24.size; omega)⟩
  have ho6b := ho6.kept hk7
  have hc8 := hc7.set 3 (.slice a7 m7 c7) (by simp)
  have hb8 := hb7.other (b := C) (o := 3) (by omega) (.slice a7 m7 c7)
  have ho8 := ho7.set1 hC6 3 (.slice a7 m7 c7)
  have h8 := h7.setNew hBC 3 (.slice a7 m7 c7)
  have o8 := o17.setNew hCw 3 (.slice a7 m7 c7)
  have ho68 : Own w4.heap.size (w7.setCell ⟨C, 3, none⟩ (.slice a7 m7 c7)) (.list 5 (Is.dats ri.1)) [.slice a5 m5 c5] F5 := Own.set1 (Own.mk' ho6b (ho6.fr.mono (Nat.le_refl _) o7.size)) hC4 3 _
  have s46 : w4.heap.size ≤ w6.heap.size := Nat.le_trans o5.size s56
  have fr68 : Fr w4.heap.size (w7.setCell ⟨C, 3, none⟩ (.slice a7 m7 c7)).heap.size (F5 ++ F7) := Fr.app ho6.fr ho8.fr s46 (Nat.le_trans o7.size (by simp))
  have hOO : Own w4.heap.size (w7.setCell ⟨C, 3, none⟩ (.slice a7 m7 c7)) (Cd.dat (.mk zf zp ri.1 rm.1)) [.int .i64 zf, .int .i64 zp, .slice a5 m5 c5, .slice a7 m7 c7] (F5 ++ F7) := Own.mk' (Cd.own (x := .mk zf zp ri.1 rm.1) ho68.own ho8.own) fr68
  have HZ := fun w' => HY.out w' zf zp a5 m5 c5 a7 m7 c7 (F5 ++ F7) rfl rfl hm5.out hm7.out
  have s04 : w.heap.size ≤ w4.heap.size := o24.size
  have hw4 : w.heap.size < w4.heap.size := by omega
  have k0 := (hc7.cell 0 _ rfl).1
  have kf0 := (hc7.cell 0 _ rfl).2
  have k1 := (hc7.cell 1 _ rfl).1
  have kf1 := (hc7.cell 1 _ rfl).2
  have k2 := (hc7.cell 2 _ rfl).1
  have kf2 := (hc7.cell 2 _ rfl).2
  have k3 := (hc7.cell 3 _ rfl).1
  have kf3 := (hc7.cell 3 _ rfl).2
  have kl := hc7.lt
  have b0 := (hb8.cell 0 _ rfl).1
  have bf0 := (hb8.cell 0 _ rfl).2
  have b1 := (hb8.cell 1 _ rfl).1
  have bf1 := (hb8.cell 1 _ rfl).2
  have b2 := (hb8.cell 2 _ rfl).1
  have bf2 := (hb8.cell 2 _ rfl).2
  have b3 := (hb8.cell 3 _ rfl).1
  have bf3 := (hb8.cell 3 _ rfl).2
  have bl := hb8.lt
  have d0 := (hc8.cell 0 _ rfl).1
  have d1 := (hc8.cell 1 _ rfl).1
  have d2 := (hc8.cell 2 _ rfl).1
  have d3 := (hc8.cell 3 _ rfl).1
  have dl := hc8.lt
  clear HY HN HI HM h1 h2 h2b h3 h4 h5 h6 h7 ho5 ho6 ho7 ho8 ho6b ho68 fr68 hb5 hb6 hb7 hb8 hc5 hc6 hc7 hc8 hcx hbx hbA hbB ha hm5 hm7
  go_wp2_with fail
  refine bodyPost_ret (v := .agg #[.int .i64 zf, .int .i64 zp, .slice a5 m5 c5, .slice a7 m7 c7]) (by simp [results, Try.results50, go_sem, b0, b1, b2, b3]) rfl (HZ _ ?_ ?_ ?_ ?_)
  · exact ((((hOO.set1 hw4 0 _).set1 hw4 1 _).set1 hw4 2 _).set1 hw4 3 _).own
  · exact ((((hOO.set1 hw4 0 _).set1 hw4 1 _).set1 hw4 2 _).set1 hw4 3 _).fr.mono s04 (Nat.le_refl _)
  · repeat (first | with_reducible exact h8 | refine Rb.setNew ?_ (by omega) _ _)
  · repeat (first | with_reducible exact o8 | refine OnlyK.setNew ?_ (by omega) _ _)
theorem Cd.dats_app (l : List Cd) (x : Cd) : Cd.dats (l ++ [x]) = Cd.dats l ++ [Cd.dat x] := by
  induction l with
  | nil => rfl
  | cons y r ih => rw [List.cons_append, Cd.dats, Cd.dats, ih]; rfl
set_option maxRecDepth 20000 in
set_option maxHeartbeats 2000000 in
theorem repCd_any {B : Nat} {w : World} {R : Nat} {s : RS} (h : Rb B w R s) (n : Nat) (hn : n ≤ 65535) :
    Calls Try.prog 49 #[.pointer (some ⟨R, 0, none⟩), .int .i64 (n : Int), .func (.func 50) #[.pointer (some ⟨R, 0, none⟩)] #[]] w (LsP B R w 4 Cd.dats (rep rdCd n s)) := by
  have HZ : Hid (∀ w' a m c F l t, rep rdCd n s = (l, t) → m = l.length → Own w.heap.size w' (.list 4 (Cd.dats l)) [.slice a m c] F → Rb B w' R t → OnlyK R w w' → LsP B R w 4 Cd.dats (rep rdCd n s) (.returned (.slice a m c)) w') := fun w' a m c F l t e hm ho hr o => by rw [e]; subst hm; exact ⟨a, c, F, rfl, ho, hr, o⟩
  generalize LsP B R w 4 Cd.dats (rep rdCd n s) = Q at *
  obtain ⟨i0, hi, hz0, hz1, hz2⟩ := info_parts Try.info58
  have hBw := h.hB
  have hRB := h.lt
  go_enter Try.func49, Try.ntmps49
  go_wp2_with fail
  go_loopw [7, 9] (fun v i wr => ∃ (j : Nat) (l : List Cd) (xs : List Value) (F : List Nat) (t : RS) (lv : Value), lv = v ∧ i = .int .i64 (j : Int) ∧ j ≤ n ∧ Bd w.heap.size wr 58 4 lv (Cd.dats l) xs F ∧ Rb B wr R t ∧ OnlyK R w wr ∧ Hid (l.length ≤ j ∧ rep rdCd n s = (l ++ (rep rdCd (n - j) t).1, (rep rdCd (n - j) t).2))) (fun _ i _ => n - (intOf i).toNat)
  case atStart => exact ⟨0, [], [], [], s, _, rfl, rfl, Nat.zero_le _, Bd.nil _ _ _ _, h, OnlyK.refl _ _, ⟨Nat.zero_le _, by rw [List.nil_append, Nat.sub_zero]⟩⟩
  case round =>
    clear h
    obtain ⟨j, l, xs, F, t, lv, rfl, rfl, hj, hB, hR, oR, HR⟩ := hrel
    have hrow := hB.row
    obtain ⟨m, hm⟩ := hidx (Cd.dats l).length
    rw [← hm.out] at hrow
    have hml : m = l.length := by rw [hm.out, Cd.dats_len]
    have hmj : m ≤ j := by rw [hml]; exact HR.out.1
    have HML : Hid (m = l.length) := hml
    clear hml
    obtain ⟨ra, rc, rfl⟩ := row_form hrow
    have cf := hR.c1
    have HE : Hid (rep rdCd n s = (l ++ (rep rdCd (n - j) t).1, (rep rdCd (n - j) t).2)) := HR.out.2
    have HD : Hid (∀ w2, OnlyK R w w2 → Bd w.heap.size w2 58 4 (.slice ra m rc) (Cd.dats l) xs F → Rb B w2 R t → rep rdCd (n - j) t = ([], t) → Q (.returned (.slice ra m rc)) w2) := fun w2 o2 b2 r2 e2 => by
      obtain ⟨G, hG⟩ := b2.done (by rw [Cd.dats_len, ← HML.out]; omega)
      exact HZ.out w2 ra m rc G l t (by rw [HE.out, e2, List.append_nil]) HML.out hG r2 o2
    by_cases hlt : j < n
    · have i1 : (j : Int) < (n : Int) := by omega
      have hlR : R < wr.heap.size := Nat.lt_of_lt_of_le hRB hR.hB
      cases hf : t.fin with
      | true =>
        rw [hf] at cf
        have HQ := HD.out wr oR hB hR (rep_fin _ _ hf)
        clear HD HE HR HZ hB hR
        go_wp2_with fail
        exact HQ
      | false =>
        rw [hf] at cf
        have hst : rep rdCd (n - j) t = ((rdCd t).1 :: (rep rdCd (n - (j + 1)) (rdCd t).2).1, (rep rdCd (n - (j + 1)) (rdCd t).2).2) := by rw [show n - j = (n - (j + 1)) + 1 by omega, rep, if_neg (by rw [hf]; simp)]
        go_wp2_with fail
        refine (rcode_any hR).mono ?_
        rintro e w1 ⟨zf, zp, a1, c1, n1, a2, c2, n2, G1, rfl, hN1, hO1, hR1, o1⟩
        clear hN1
        have hk1 : Kept w.heap.size wr w1 := ⟨o1.size, fun b hb hl => o1.block b hl (by omega)⟩
        have oW := oR.trans o1
        have hO2 : Own wr.heap.size w1 (Cd.dat (rdCd t).1) [.int .i64 zf, .int .i64 zp, .slice a1 n1 c1, .slice a2 n2 c2] G1 := hO1
        have HPU : Hid (∀ v9 w9, w9.ownsRow w.heap.size 58 4 v9 (m + 1) (xs ++ [.int .i64 zf, .int .i64 zp, .slice a1 n1 c1, .slice a2 n2 c2]) → (w1.alloc (.cells #[.int .i64 zf, .int .i64 zp, .slice a1 n1 c1, .slice a2 n2 c2] 58)).grownBy w9 (Value.slice ra m rc).ownBlock → (v9.ownBlock = (Value.slice ra m rc).ownBlock ∨ v9.ownBlock = some (w1.alloc (.cells #[.int .i64 zf, .int .i64 zp, .slice a1 n1 c1, .slice a2 n2 c2] 58)).heap.size) → ∃ F9, Bd w.heap.size w9 58 4 v9 (Cd.dats (l ++ [(rdCd t).1])) (xs ++ [.int .i64 zf, .int .i64 zp, .slice a1 n1 c1, .slice a2 n2 c2]) F9 ∧ Rb B w9 R (rdCd t).2 ∧ OnlyK R w w9 ∧ Hid ((l ++ [(rdCd t).1]).length ≤ j + 1 ∧ rep rdCd n s = (l ++ [(rdCd t).1] ++ (rep rdCd (n - (j + 1)) (rdCd t).2).1, (rep rdCd (n - (j + 1)) (rdCd t).2).2))) := fun v9 w9 o9 g9 h9 => by
          rw [Cd.dats_app]
          have hvb : ∀ g, (Value.slice ra m rc).ownBlock = some g → w.heap.size ≤ g := fun g hg => (hrow.lt g hg).1
          refine ⟨_, Bd.push hB rfl hO2 hk1 ((later1 w1 _).kept _) oR.size (by rw [Cd.dats_len, ← HML.out]; exact o9) g9 h9, ?_, only_grown (oW.alloc _) g9 hvb, ⟨by rw [List.length_append, List.length_singleton, ← HML.out]; omega, by rw [HE.out, hst, List.append_assoc]; rfl⟩⟩
          refine (hR1.later (later1 w1 _)).below ⟨g9.os, g9.tape, g9.output, g9.size, fun b hb => g9.block b ?_ (fun e => ?_)⟩
          · have := hR1.hB; have := (later1 w1 (.cells #[.int .i64 zf, .int .i64 zp, .slice a1 n1 c1, .slice a2 n2 c2] 58)).size; omega
          · have := hvb b e.symm; omega
        have hrA := row_kept hrow hk1
        have bA : w.heap.size ≤ w1.heap.size := oW.size
        clear HD HE HR HZ hB hR hst hO2 hR1 hk1
        go_wp2_with (at_builtin; refine wpList_append_own_at _ rfl _ _ 30 rfl w.heap.size 58 i0 (.agg #[.int .i64 0, .int .i64 0, .slice none 0 0, .slice none 0 0]) 4 64 Try.underlying30 hi hz0 hz1 hz2 rfl (by decide) _ _ _ rfl (hrA.alloc _) _ 1 1 [.int .i64 zf, .int .i64 zp, .slice a1 n1 c1, .slice a2 n2 c2] rfl rfl (new_row _ _ _ (by simp)) (by simp [Value.oneCell']) (by unfold maxLen; omega) (by omega) (Nat.le_trans bA (later1 _ _).size) ?_; intro v9 w9 o9 g9 _ h9; obtain ⟨F9, B9, R9, O9, H9⟩ := HPU.out _ _ o9 g9 h9; obtain ⟨a9, p9, hv9⟩ := row_form o9; rw [hv9] at B9 ⊢; clear o9 g9 h9 HPU)
        go_roundw
        case rel => exact ⟨j + 1, _, _, _, _, _, rfl, by go_num, by omega, B9, R9, O9, H9⟩
        case measure => simp [intOf]; omega
    · have i1 : ¬ (j : Int) < (n : Int) := by omega
      have i2 : decide ((j : Int) < (n : Int)) = false := decide_eq_false i1
      have HQ := HD.out wr oR hB hR (by rw [show n - j = 0 by omega]; rfl)
      clear HD HE HR HZ hB hR
      go_wp2_with fail
      exact HQ
end Go.Proofs.Ytlfkjjnhlkaipaa
