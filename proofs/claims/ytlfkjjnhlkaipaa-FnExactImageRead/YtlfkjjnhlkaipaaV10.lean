/- Images, read. -/
import Derived.Test.YtlfkjjnhlkaipaaV9
import Derived.Test.YtlfkjjnhlkaipaaV7
namespace Go.Proofs.Ytlfkjjnhlkaipaa
open Go.RowKit Go.Lib Go.Maps

def ImP (B R : Nat) (w : World) (r : Im × RS) (e : Ending) (w' : World) : Prop := ∃ zm a1 c1 n1 a2 c2 n2 F, e = .returned (.agg #[.slice a1 n1 c1, .slice a2 n2 c2, .int .i64 zm]) ∧ (zm = r.1.main ∧ n1 = r.1.structs.length ∧ n2 = r.1.codes.length) ∧ Own w.heap.size w' (Im.dat r.1) [.slice a1 n1 c1, .slice a2 n2 c2, .int .i64 zm] F ∧ Rb B w' R r.2 ∧ OnlyK R w w'
theorem build_im (z : Int) (w : World) : (Instr.build 32 #[(2, .int .i64 z)]).run Try.prog w = .ok (.agg #[.slice none 0 0, .slice none 0 0, .int .i64 z]) w := run_build w 32 _ _ (by kernel_rfl)
set_option maxRecDepth 20000 in
set_option maxHeartbeats 4000000 in
theorem image_any {B : Nat} {w : World} {R : Nat} {s : RS} (h : Rb B w R s) :
    Calls Try.prog 27 #[.pointer (some ⟨R, 0, none⟩)] w (ImP B R w (rdIm s)) := by
  obtain ⟨s0, e0⟩ := hidx (tkS 2 s)
  obtain ⟨s1, e1⟩ := hidx (tkS 2 s0)
  obtain ⟨s2, e2⟩ := hidx (tkS 2 s1)
  obtain ⟨s3, e3⟩ := hidx (tkS 2 s2)
  have hb0 : s0.By := by rw [e0.out]; exact By.tk h.by8 2
  have hb1 : s1.By := by rw [e1.out]; exact By.tk hb0 2
  obtain ⟨ni, hni⟩ := Int.eq_ofNat_of_zero_le (nx16_rg hb0).1
  have hni2 : ni ≤ 65535 := by have := (nx16_rg hb0).2; omega
  obtain ⟨nm, hnm⟩ := Int.eq_ofNat_of_zero_le (nx16_rg hb1).1
  have hnm2 : nm ≤ 65535 := by have := (nx16_rg hb1).2; omega
  have hbl := build_im
  obtain ⟨ri, hri⟩ := hidx (rep rdBs ni s3)
  obtain ⟨rm, hrm⟩ := hidx (rep rdCd nm ri.2)
  have HY : Hid (∀ w' zm a1 m1 c1 a2 m2 c2 F, zm = nx16 s2 → m1 = ri.1.length → m2 = rm.1.length → OwnD w' (Im.dat (.mk ri.1 rm.1 zm)) [.slice a1 m1 c1, .slice a2 m2 c2, .int .i64 zm] F → Fr w.heap.size w'.heap.size F → Rb B w' R rm.2 → OnlyK R w w' → ImP B R w (rdIm s) (.returned (.agg #[.slice a1 m1 c1, .slice a2 m2 c2, .int .i64 zm])) w') := fun w' zm a1 m1 c1 a2 m2 c2 F hf h1 h2 ho fr hr o => by
    have q0 : im0 s = s0 := by unfold im0; rw [e0.out]
    have q1 : imBs s = ri := by unfold imBs; rw [q0, ← e1.out, ← e2.out, ← e3.out, hni, Int.toNat_natCast, hri.out]
    have q2 : imCd s = rm := by unfold imCd; rw [q1, q0, ← e1.out, hnm, Int.toNat_natCast, hrm.out]
    unfold rdIm
    rw [q1, q2, q0, ← e1.out, ← e2.out, ← hf]
    exact ⟨_, a1, c1, m1, a2, c2, m2, F, rfl, ⟨rfl, h1, h2⟩, Own.mk' ho fr, hr, o⟩
  generalize ImP B R w (rdIm s) = Q at *
  have hBw := h.hB
  have hRB := h.lt
  have hK : w.heap.size ≠ R := by omega
  obtain ⟨wa, hwa⟩ := hidx (w.alloc (.cells #[.slice none 0 0, .slice none 0 0, .int .i64 0] 32))
  have la : Later w wa := by rw [hwa.out]; exact later1 _ _
  have hbx : Bxx wa w.heap.size [.slice none 0 0, .slice none 0 0, .int .i64 0] := by rw [hwa.out]; exact Bxx.new _ _ _
  have ha := h.later la
  have oa : OnlyK R w wa := OnlyK.of_later la
  have HT := take_any ha 2 (by decide)
  have HN := fun w' t (r : Rb B w' R t) => number_any r
  have HI := fun w' (r : Rb B w' R s3) => repBs_any r ni hni2
  have HM := fun w' (r : Rb B w' R ri.2) => repCd_any r nm hnm2
  rw [← hri.out] at HI
  rw [← hrm.out] at HM
  clear h la hb0 hb1
  go_enter Try.func27, Try.ntmps27
  go_wp2_with fail
  rw [← hwa.out]
  refine HT.mono ?_
  rintro e w0 ⟨v0, rfl, ⟨x0, rfl, hq⟩, h0, o0⟩
  clear hq
  rw [← e0.out] at h0
  generalize (tkL 2 s).length = ln0 at *
  go_wp2_with fail
  refine (HN _ _ h0).mono ?_
  rintro e w1 ⟨rfl, h1, o1⟩
  rw [← e1.out] at h1
  rw [hni]
  go_wp2_with fail
  refine (HN _ _ h1).mono ?_
  rintro e w2 ⟨rfl, h2, o2⟩
  rw [← e2.out] at h2
  rw [hnm]
  go_wp2_with fail
  refine (HN _ _ h2).mono ?_
  rintro e w3 ⟨rfl, h3, o3⟩
  rw [← e3.out] at h3
  generalize nx16 s2 = zm at *
  have o13 := (((oa.trans o0).trans o1).trans o2).trans o3
  have hbA := (((hbx.only o0 hK).only o1 hK).only o2 hK).only o3 hK
  have sA := hbA.lt
  obtain ⟨wb, hwb⟩ := hidx (w3.alloc (.cells #[.slice none 0 0, .slice none 0 0, .int .i64 zm] 32))
  have lb : Later w3 wb := by rw [hwb.out]; exact later1 _ _
  have hcx : Bxx wb w3.heap.size [.slice none 0 0, .slice none 0 0, .int .i64 zm] := by rw [hwb.out]; exact Bxx.new _ _ _
  have hbB := hbA.later lb
  have h3b := h3.later lb
  have ob := o13.trans (OnlyK.of_later lb)
  obtain ⟨C, hC⟩ := hidx w3.heap.size
  rw [← hC.out] at hcx
  have hCR : C ≠ R := by rw [hC.out]; have := o13.size; omega
  have hwC : w.heap.size < C := by rw [hC.out]; exact sA
  have hCw : w.heap.size ≤ C := Nat.le_of_lt hwC
  have hBC : B ≤ C := by omega
  have hC4 : C < wb.heap.size := hcx.lt
  go_wp2_with fail
  rw [← hwb.out, ← hC.out]
  refine (HI _ h3b).mono ?_
  rintro e w5 ⟨a5, c5, F5, rfl, ho5, h5, o5⟩
  have hc5 := hcx.only o5 hCR
  have hb5 := hbB.only o5 hK
  have o25 := ob.trans o5
  obtain ⟨m5, hm5⟩ := hidx ri.1.length
  rw [← hm5.out] at ho5 ⊢
  have hc6 := hc5.set 0 (.slice a5 m5 c5) (by simp)
  have hb6 := hb5.other (b := C) (o := 0) (by omega) (.slice a5 m5 c5)
  have ho6 := ho5.set1 hC4 0 (.slice a5 m5 c5)
  have h6 := h5.setNew hBC 0 (.slice a5 m5 c5)
  have o6 := o25.setNew hCw 0 (.slice a5 m5 c5)
  have k0 := (hc5.cell 0 _ rfl).1
  have kf0 := (hc5.cell 0 _ rfl).2
  have k1 := (hc5.cell 1 _ rfl).1
  have kf1 := (hc5.cell 1 _ rfl).2
  have kl := hc5.lt
  have s56 : w5.heap.size ≤ (w5.setCell ⟨C, 0, none⟩ (.slice a5 m5 c5)).heap.size := by simp
  go_wp2_with fail
  generalize w5.setCell ⟨C, 0, none⟩ (.slice a5 m5 c5) = w6 at *
  clear k0 kf0 k1 kf1 kl
  refine (HM _ h6).mono ?_
  rintro e w7 ⟨a7, c7, F7, rfl, ho7, h7, o7⟩
  obtain ⟨m7, hm7⟩ := hidx rm.1.length
  rw [← hm7.out] at ho7 ⊢
  have hc7 := hc6.only o7 hCR
  have hb7 := hb6.only o7 hK
  have o17 := o6.trans o7
  have hC6 : C < w6.heap.size := hc6.lt
  have hk7 : Kept wb.heap.size w6 w7 := ⟨o7.size, fun b hb hl => o7.block b hl (by have := ob.size; omega)⟩
  have ho6b := ho6.kept hk7
  have hc8 := hc7.set 1 (.slice a7 m7 c7) (by simp)
  have hb8 := hb7.other (b := C) (o := 1) (by omega) (.slice a7 m7 c7)
  have ho8 := ho7.set1 hC6 1 (.slice a7 m7 c7)
  have h8 := h7.setNew hBC 1 (.slice a7 m7 c7)
  have o8 := o17.setNew hCw 1 (.slice a7 m7 c7)
  have ho68 : Own wb.heap.size (w7.setCell ⟨C, 1, none⟩ (.slice a7 m7 c7)) (.list 1 (Bs.dats ri.1)) [.slice a5 m5 c5] F5 := Own.set1 (Own.mk' ho6b (ho6.fr.mono (Nat.le_refl _) o7.size)) hC4 1 _
  have s46 : wb.heap.size ≤ w6.heap.size := Nat.le_trans o5.size s56
  have fr68 : Fr wb.heap.size (w7.setCell ⟨C, 1, none⟩ (.slice a7 m7 c7)).heap.size (F5 ++ F7) := Fr.app ho6.fr ho8.fr s46 (Nat.le_trans o7.size (by simp))
  have hOO : Own wb.heap.size (w7.setCell ⟨C, 1, none⟩ (.slice a7 m7 c7)) (Im.dat (.mk ri.1 rm.1 zm)) [.slice a5 m5 c5, .slice a7 m7 c7, .int .i64 zm] (F5 ++ F7) := Own.mk' (Im.own (x := .mk ri.1 rm.1 zm) ho68.own ho8.own) fr68
  have HZ := fun w' => HY.out w' zm a5 m5 c5 a7 m7 c7 (F5 ++ F7) rfl hm5.out hm7.out
  have s04 : w.heap.size ≤ wb.heap.size := ob.size
  have hw4 : w.heap.size < wb.heap.size := by omega
  have k0 := (hc7.cell 0 _ rfl).1
  have kf0 := (hc7.cell 0 _ rfl).2
  have k1 := (hc7.cell 1 _ rfl).1
  have kf1 := (hc7.cell 1 _ rfl).2
  have k2 := (hc7.cell 2 _ rfl).1
  have kf2 := (hc7.cell 2 _ rfl).2
  have kl := hc7.lt
  have b0 := (hb8.cell 0 _ rfl).1
  have bf0 := (hb8.cell 0 _ rfl).2
  have b1 := (hb8.cell 1 _ rfl).1
  have bf1 := (hb8.cell 1 _ rfl).2
  have b2 := (hb8.cell 2 _ rfl).1
  have bf2 := (hb8.cell 2 _ rfl).2
  have bl := hb8.lt
  have d0 := (hc8.cell 0 _ rfl).1
  have d1 := (hc8.cell 1 _ rfl).1
  have d2 := (hc8.cell 2 _ rfl).1
  have dl := hc8.lt
  clear HY HN HI HM HT h1 h2 h3b h3 h0 h5 h6 h7 ho5 ho6 ho7 ho8 ho6b ho68 fr68 hb5 hb6 hb7 hb8 hc5 hc6 hc7 hc8 hcx hbx hbA hbB ha hm5 hm7
  go_wp2_with fail
  refine bodyPost_ret (v := .agg #[.slice a5 m5 c5, .slice a7 m7 c7, .int .i64 zm]) (by simp [results, Try.results27, go_sem, b0, b1, b2]) rfl (HZ _ ?_ ?_ ?_ ?_)
  · exact (((hOO.set1 hw4 0 _).set1 hw4 1 _).set1 hw4 2 _).own
  · exact (((hOO.set1 hw4 0 _).set1 hw4 1 _).set1 hw4 2 _).fr.mono s04 (Nat.le_refl _)
  · repeat (first | with_reducible exact h8 | refine Rb.setNew ?_ (by omega) _ _)
  · repeat (first | with_reducible exact o8 | refine OnlyK.setNew ?_ (by omega) _ _)
end Go.Proofs.Ytlfkjjnhlkaipaa
