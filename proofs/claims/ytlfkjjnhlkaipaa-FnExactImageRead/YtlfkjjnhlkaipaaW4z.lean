/- The model's ImageRead. -/
import Derived.Test.YtlfkjjnhlkaipaaW3m
import Derived.Test.YtlfkjjnhlkaipaaG10
import Derived.Deep.CutRange
import Derived.Deep.CutBlock
namespace Go.Proofs.Ytlfkjjnhlkaipaa
open Go.RowKit Go.Lib Go.Maps

/-- What the model answers, to be read. -/
def SrP (w : World) (r : Im × Bool) (e : Ending) (w' : World) : Prop := ∃ zm a1 c1 n1 a2 c2 n2 F, e = .returned (.tuple #[.agg #[.slice a1 n1 c1, .slice a2 n2 c2, .int .i64 zm], .bool r.2]) ∧ (zm = r.1.main ∧ n1 = r.1.structs.length ∧ n2 = r.1.codes.length) ∧ Own w.heap.size w' (Im.dat r.1) [.slice a1 n1 c1, .slice a2 n2 c2, .int .i64 zm] F ∧ Later w w'
theorem build_cur (a : Option Addr) (n c : Nat) (w : World) : (Instr.build 52 #[(0, .slice a n c), (1, .int .i64 2)]).run Try.prog w = .ok (.agg #[.slice a n c, .int .i64 2]) w := run_build w 52 _ _ (by kernel_rfl)
theorem build_ma1 (z : Int) (w : World) : (Instr.build 63 #[(0, .int .i64 z)]).run Try.prog w = .ok (.agg #[.int .i64 z, .slice none 0 0]) w := run_build w 63 _ _ (by kernel_rfl)
/-- Since then only two older blocks were written. -/
structure O2 (C X : Nat) (w w' : World) : Prop where
  os : w'.os = w.os
  tape : w'.tape = w.tape
  output : w'.output = w.output
  size : w.heap.size ≤ w'.heap.size
  block : ∀ k, k < w.heap.size → k ≠ C → k ≠ X → w'.heap[k]? = w.heap[k]?
theorem O2.refl (C X : Nat) (w : World) : O2 C X w w := ⟨rfl, rfl, rfl, Nat.le_refl _, fun _ _ _ _ => rfl⟩
theorem O2.trans {C X : Nat} {a b c : World} (h : O2 C X a b) (k : O2 C X b c) : O2 C X a c := ⟨k.os.trans h.os, k.tape.trans h.tape, k.output.trans h.output, Nat.le_trans h.size k.size, fun x hx h1 h2 => by rw [k.block x (Nat.lt_of_lt_of_le hx h.size) h1 h2, h.block x hx h1 h2]⟩
theorem O2.of_only {C X : Nat} {w w' : World} (h : OnlyK C w w') : O2 C X w w' := ⟨h.os, h.tape, h.output, h.size, fun k hk h1 _ => h.block k hk h1⟩
theorem O2.of_later {C X : Nat} {w w' : World} (h : Later w w') : O2 C X w w' := O2.of_only (OnlyK.of_later h)
theorem O2.setX {C X : Nat} {a w : World} (h : O2 C X a w) (o : Nat) (u : Value) : O2 C X a (w.setCell ⟨X, o, none⟩ u) := ⟨h.os, h.tape, h.output, by rw [World.size_setCell]; exact h.size, fun k hk h1 h2 => (Below.heap_setCell _ _ _ _ h2).trans (h.block k hk h1 h2)⟩
theorem O2.grown {C X : Nat} {w w1 w2 : World} {u : Value} (h : O2 C X w w1) (hg : w1.grownBy w2 u.ownBlock) (hn : ∀ g, u.ownBlock = some g → w.heap.size ≤ g) : O2 C X w w2 :=
  ⟨hg.os.trans h.os, hg.tape.trans h.tape, hg.output.trans h.output, Nat.le_trans h.size hg.size, fun k hk h1 h2 => by
    rw [hg.block k (Nat.lt_of_lt_of_le hk h.size) (fun e => by have := hn k e.symm; omega)]
    exact h.block k hk h1 h2⟩
theorem O2.kept {C X lo : Nat} {w w' : World} (h : O2 C X w w') (hC : C < lo) (hX : X < lo) : Kept lo w w' := ⟨h.size, fun b hb hl => h.block b hl (by omega) (by omega)⟩
theorem O2.bxx {C X b : Nat} {w w' : World} {xs : List Value} (h : O2 C X w w') (hb : Bxx w b xs) (h1 : b ≠ C) (h2 : b ≠ X) : Bxx w' b xs := hb.kept h.size (h.block b hb.lt h1 h2)
theorem O2.below {C X B : Nat} {w w' : World} (h : O2 C X w w') (h1 : B ≤ C) (h2 : B ≤ X) (hs : B ≤ w.heap.size) : Below B w w' := ⟨h.os, h.tape, h.output, h.size, fun k hk => h.block k (by omega) (by omega) (by omega)⟩
/-- X is newer than the world of old: then it plays no part there. -/
theorem O2.old {C X : Nat} {a w w' : World} (k : OnlyK C a w) (h : O2 C X w w') (hX : a.heap.size ≤ X) : OnlyK C a w' := ⟨h.os.trans k.os, h.tape.trans k.tape, h.output.trans k.output, Nat.le_trans k.size h.size, fun b hb h1 => by rw [h.block b (Nat.lt_of_lt_of_le hb k.size) h1 (by omega)]; exact k.block b hb h1⟩
theorem masz_le (l : List Ma) : Ma.szs l ≤ (masL l).length := by
  have h := masL_len l
  have := Ma.szs_ge l
  omega
theorem cdsz_le (c : Cd) : 1 + c.sz ≤ (cdL c).length := by
  obtain ⟨f, p, is, ms⟩ := c
  have := masz_le ms
  unfold cdL
  simp only [List.length_append, twoL_len, insL_len]
  show 1 + (is.length + Ma.szs ms) ≤ 2 + (2 + (2 + (2 + (12 * is.length + (masL ms).length))))
  omega
theorem cdssz_le (l : List Cd) : Cd.szs l ≤ (cdsL l).length := by
  induction l with
  | nil => exact Nat.le_refl _
  | cons c r ih => have := cdsz_le c; rw [Cd.szs, cdsL, List.length_append]; omega
theorem bssz_le (l : List Bs) : Bs.szs l ≤ (bssL l).length := by have := bssL_len l; omega
theorem imsz_le (x : Im) : x.sz ≤ (imL x).length := by
  obtain ⟨ss, cs, mn⟩ := x
  have h1 := bssz_le ss
  have h2 := cdssz_le cs
  unfold imL
  simp only [List.length_append, twoL_len]
  show Bs.szs ss + Cd.szs cs ≤ 2 + (2 + (2 + (2 + ((bssL ss).length + (cdsL cs).length))))
  omega
theorem mBits_fin (n : Nat) (s : RS) (h : s.fin = true) : mBits n s = ([], s) := by cases n with | zero => rfl | succ n => rw [mBits, if_pos h]
theorem mBits_end (n : Nat) (s : RS) (h : s.fin = false) (hr : s.rest = []) : mBits (n + 1) s = ([], badS) := by
  obtain ⟨l, f⟩ := s
  dsimp only at h hr
  subst h hr
  rfl
theorem mBits_big (n : Nat) (s : RS) (h : s.fin = false) {a : Int} {r : List Int} (hr : s.rest = a :: r) (ha : ¬ a ≤ 1) : mBits (n + 1) s = ([], badS) := by
  obtain ⟨l, f⟩ := s
  dsimp only at h hr
  subst h hr
  show (if a ≤ 1 then _ else _) = _
  rw [if_neg ha]
theorem mBits_in (n : Nat) (s : RS) (h : s.fin = false) {a : Int} {r : List Int} (hr : s.rest = a :: r) (ha : a ≤ 1) : mBits (n + 1) s = ((a == 1) :: (mBits n ⟨r, false⟩).1, (mBits n ⟨r, false⟩).2) := by
  obtain ⟨l, f⟩ := s
  dsimp only at h hr
  subst h hr
  show (if a ≤ 1 then _ else _) = _
  rw [if_pos ha]
theorem irM_no {zs : List Int} (h : 200000 < zs.length ∨ ¬ (zs.take 2 = [71, 73])) : irM zs = (zeroIm, false) := by unfold irM; rw [if_pos h]
set_option maxRecDepth 20000 in
set_option maxHeartbeats 60000000 in
theorem sread_any (zs : List Int) (g off cap : Nat) (w : World) (hby : ∀ z ∈ zs, 0 ≤ z ∧ z ≤ 255) (hg : g < w.heap.size) (hc1 : zs.length ≤ cap) (_ : cap ≤ 1048576) (hcs : ∀ j (h : j < zs.length), w.cell? ⟨g, off + j, none⟩ = some (.int .u8 zs[j])) :
    Calls Try.prog 8 #[.slice (some ⟨g, off, none⟩) zs.length cap] w (SrP w (irM zs)) := by
  have hbl := build_cur
  have hbz := build_z
  have hbc := build_cd
  have hbm := build_ma1
  obtain ⟨wa, hwa⟩ := hidx (w.alloc (.cells #[.slice none 0 0, .slice none 0 0, .int .i64 0] 32))
  have la : Later w wa := by rw [hwa.out]; exact later1 _ _
  have hbx : Bxx wa w.heap.size [.slice none 0 0, .slice none 0 0, .int .i64 0] := by rw [hwa.out]; exact Bxx.new _ _ _
  have sa : wa.heap.size = w.heap.size + 1 := by rw [hwa.out]; simp
  have HNo : Hid (irM zs = (zeroIm, false) → ∀ w', Later w w' → SrP w (irM zs) (.returned (.tuple #[.agg #[.slice none 0 0, .slice none 0 0, .int .i64 0], .bool false])) w') := fun h w' l => by
    rw [h]
    exact ⟨_, _, _, _, _, _, _, [], rfl, ⟨rfl, rfl, rfl⟩, zero_own _ _, l⟩
  by_cases hlen : 200000 < zs.length
  · have hi : (200000 : Int) < (zs.length : Int) := by omega
    have HN : Hid _ := HNo.out (irM_no (Or.inl hlen))
    generalize SrP w (irM zs) = Q at *
    clear HNo hcs
    have b0 := (hbx.cell 0 _ rfl).1
    have bf0 := (hbx.cell 0 _ rfl).2
    have b1 := (hbx.cell 1 _ rfl).1
    have bf1 := (hbx.cell 1 _ rfl).2
    have b2 := (hbx.cell 2 _ rfl).1
    have bf2 := (hbx.cell 2 _ rfl).2
    have bl := hbx.lt
    generalize zs.length = N at *
    go_enter Try.func8, Try.ntmps8
    go_wp2_with fail
    rw [← hwa.out]
    go_wp2_with fail
    refine bodyPost_ret (v := .tuple #[.agg #[.slice none 0 0, .slice none 0 0, .int .i64 0], .bool false]) (by simp [results, Try.results8, go_sem, b0, b1, b2]) rfl (HN.out _ ?_)
    repeat (first | with_reducible exact la | refine Later.setAt ?_ (by omega) _ _)
  · have hi : ¬ (200000 : Int) < (zs.length : Int) := by omega
    by_cases hl2 : zs.length < 2
    · have hj : (zs.length : Int) < 2 := by omega
      have HN : Hid _ := HNo.out (irM_no (Or.inr (fun e => by have := congrArg List.length e; rw [List.length_take] at this; simp at this; omega)))
      generalize SrP w (irM zs) = Q at *
      clear HNo hcs
      have b0 := (hbx.cell 0 _ rfl).1
      have bf0 := (hbx.cell 0 _ rfl).2
      have b1 := (hbx.cell 1 _ rfl).1
      have bf1 := (hbx.cell 1 _ rfl).2
      have b2 := (hbx.cell 2 _ rfl).1
      have bf2 := (hbx.cell 2 _ rfl).2
      have bl := hbx.lt
      generalize zs.length = N at *
      go_enter Try.func8, Try.ntmps8
      go_wp2_with fail
      rw [← hwa.out]
      go_wp2_with fail
      refine bodyPost_ret (v := .tuple #[.agg #[.slice none 0 0, .slice none 0 0, .int .i64 0], .bool false]) (by simp [results, Try.results8, go_sem, b0, b1, b2]) rfl (HN.out _ ?_)
      repeat (first | with_reducible exact la | refine Later.setAt ?_ (by omega) _ _)
    · have hj : ¬ (zs.length : Int) < 2 := by omega
      have hgl : g < wa.heap.size := by omega
      have d0 : wa.cell? ⟨g, off, none⟩ = some (.int .u8 zs[0]) := by rw [Below.cell la (p := ⟨g, off, none⟩) hg]; exact hcs 0 (by omega)
      have d1 : wa.cell? ⟨g, off + 1, none⟩ = some (.int .u8 zs[1]) := by rw [Below.cell la (p := ⟨g, off + 1, none⟩) hg]; exact hcs 1 (by omega)
      have v0 : w.cell? ⟨g, off, none⟩ = some (.int .u8 zs[0]) := hcs 0 (by omega)
      have v1 : w.cell? ⟨g, off + 1, none⟩ = some (.int .u8 zs[1]) := hcs 1 (by omega)
      have htk : zs.take 2 = [zs[0], zs[1]] := by
        rw [List.take_succ_eq_append_getElem (by omega), List.take_succ_eq_append_getElem (by omega)]
        rfl
      by_cases h0 : zs[0] = 71
      rotate_left
      · have k0 : (zs[0] != 71) = true := by simpa using h0
        have hcn : ¬ (zs.take 2 = [71, 73]) := by rw [htk]; intro e; exact h0 (by simpa using (List.cons.inj e).1)
        clear htk
        generalize zs[0] = y0 at *
        generalize zs[1] = y1 at *
        have HN : Hid _ := HNo.out (irM_no (Or.inr hcn))
        generalize SrP w (irM zs) = Q at *
        clear HNo hcs
        have b0 := (hbx.cell 0 _ rfl).1
        have bf0 := (hbx.cell 0 _ rfl).2
        have b1 := (hbx.cell 1 _ rfl).1
        have bf1 := (hbx.cell 1 _ rfl).2
        have b2 := (hbx.cell 2 _ rfl).1
        have bf2 := (hbx.cell 2 _ rfl).2
        have bl := hbx.lt
        generalize zs.length = N at *
        go_enter Try.func8, Try.ntmps8
        go_wp2_with fail
        rw [← hwa.out]
        go_wp2_with fail
        refine bodyPost_ret (v := .tuple #[.agg #[.slice none 0 0, .slice none 0 0, .int .i64 0], .bool false]) (by simp [results, Try.results8, go_sem, b0, b1, b2]) rfl (HN.out _ ?_)
        repeat (first | with_reducible exact la | refine Later.setAt ?_ (by omega) _ _)
      by_cases h1 : zs[1] = 73
      rotate_left
      · have k1 : (zs[1] != 73) = true := by simpa using h1
        have hcn : ¬ (zs.take 2 = [71, 73]) := by rw [htk]; intro e; exact h1 (by simpa using (List.cons.inj (List.cons.inj e).2).1)
        clear htk
        rw [h0] at d0 v0
        clear h0
        generalize zs[1] = y1 at *
        have HN : Hid _ := HNo.out (irM_no (Or.inr hcn))
        generalize SrP w (irM zs) = Q at *
        clear HNo hcs
        have b0 := (hbx.cell 0 _ rfl).1
        have bf0 := (hbx.cell 0 _ rfl).2
        have b1 := (hbx.cell 1 _ rfl).1
        have bf1 := (hbx.cell 1 _ rfl).2
        have b2 := (hbx.cell 2 _ rfl).1
        have bf2 := (hbx.cell 2 _ rfl).2
        have bl := hbx.lt
        generalize zs.length = N at *
        go_enter Try.func8, Try.ntmps8
        go_wp2_with fail
        rw [← hwa.out]
        go_wp2_with fail
        refine bodyPost_ret (v := .tuple #[.agg #[.slice none 0 0, .slice none 0 0, .int .i64 0], .bool false]) (by simp [results, Try.results8, go_sem, b0, b1, b2]) rfl (HN.out _ ?_)
        repeat (first | with_reducible exact la | refine Later.setAt ?_ (by omega) _ _)
      rw [h0] at d0 v0
      rw [h1] at d1 v1
      have ht : zs.take 2 = [71, 73] := by rw [htk, h0, h1]
      clear htk h0 h1
      obtain ⟨C, hC⟩ := hidx (w.heap.size + 1)
      obtain ⟨M, hM⟩ := hidx (C + 1)
      obtain ⟨wb, hwb⟩ := hidx (wa.alloc (.cells #[.slice (some ⟨g, off, none⟩) zs.length cap, .int .i64 2] 52))
      obtain ⟨wc, hwc⟩ := hidx (wb.alloc (.cells #[.slice none 0 0, .slice none 0 0, .int .i64 0] 32))
      have sb : wb.heap.size = w.heap.size + 2 := by rw [hwb.out, World.size_alloc]; omega
      have sc : wc.heap.size = w.heap.size + 3 := by rw [hwc.out, World.size_alloc]; omega
      have lb : Later wa wb := by rw [hwb.out]; exact later1 _ _
      have lc : Later wb wc := by rw [hwc.out]; exact later1 _ _
      have L0 := (la.trans lb).trans lc
      have hcb : Bxx wc C [.slice (some ⟨g, off, none⟩) zs.length cap, .int .i64 2] := by
        have : Bxx wb wa.heap.size [.slice (some ⟨g, off, none⟩) zs.length cap, .int .i64 2] := by rw [hwb.out]; exact Bxx.new _ _ _
        rw [hC.out, ← sa]
        exact this.later lc
      have hmb : Bxx wc M [.slice none 0 0, .slice none 0 0, .int .i64 0] := by
        have : Bxx wc wb.heap.size [.slice none 0 0, .slice none 0 0, .int .i64 0] := by rw [hwc.out]; exact Bxx.new _ _ _
        rw [show M = wb.heap.size by rw [hM.out, hC.out, sb]]
        exact this
      have hrb := (hbx.later lb).later lc
      have hCR : w.heap.size < C := by rw [hC.out]; omega
      have hCM : C < M := by rw [hM.out]; omega
      have hMc : M < wc.heap.size := hmb.lt
      have hBc : C + 1 ≤ wc.heap.size := by omega
      have h0 : Mc (C + 1) zs g off cap wc C ⟨zs.drop 2, false⟩ := ⟨Nat.lt_succ_self _, hBc, by omega, by omega, (hcb.cell 0 _ rfl).1, hc1, Or.inr ⟨rfl, 2, by omega, rfl, (hcb.cell 1 _ rfl).1⟩, (hcb.cell 1 _ rfl).2, fun j hj => by rw [Below.cell L0 (p := ⟨g, off + j, none⟩) hg]; exact hcs j hj, by omega, hby⟩
      clear hcb hcs d0 d1 hbx lb lc la
      obtain ⟨s0, hs0⟩ := hidx (⟨zs.drop 2, false⟩ : RS)
      rw [← hs0.out] at h0
      have hs0b : s0.By := by rw [hs0.out]; exact fun z hz => hby z (List.mem_of_mem_drop hz)
      have hir : Hid (irM zs = if (mIm s0).2.fin = false ∧ (mIm s0).2.rest = [] ∧ imB (mIm s0).1 = true then ((mIm s0).1, true) else (zeroIm, false)) := by
        show _ = _
        unfold irM
        rw [if_neg (by rw [ht]; simp; omega), ← hs0.out]
      have HLN := fun w' t (r : Mc (C + 1) zs g off cap w' C t) most h1 h2 => lnum_any r most h1 h2
      have hszw : Hid (wa.heap.size = w.heap.size + 1 ∧ wb.heap.size = w.heap.size + 2 ∧ wc.heap.size = w.heap.size + 3) := ⟨sa, sb, sc⟩
      have hs0y : Hid s0.By := hs0b
      have hs0l : Hid (s0.rest.length ≤ 200000) := by show _ ≤ _; rw [hs0.out]; dsimp only; rw [List.length_drop]; omega
      clear ht hs0 sa sb sc
      generalize hQ : SrP w (irM zs) = Q at *
      have HQ : Hid (SrP w (irM zs) = Q) := hQ
      clear hQ
      go_enter Try.func8, Try.ntmps8
      go_wp2_with fail
      rw [← hwa.out, ← hwb.out, ← hwc.out, ← hC.out, ← hM.out]
      obtain ⟨r1, hr1⟩ := hidx (mNum 6 s0)
      obtain ⟨r2, hr2⟩ := hidx (mNum 8 r1.2)
      obtain ⟨r3, hr3⟩ := hidx (mNum 8 r2.2)
      have q1 := mNum_nn (most := 6) hs0b (by decide)
      have b1y : r1.2.By := by rw [hr1.out]; exact mNum_by hs0b
      have q2 := mNum_nn (most := 8) b1y (by decide)
      have b2y : r2.2.By := by rw [hr2.out]; exact mNum_by b1y
      have b3y : Hid r3.2.By := by show r3.2.By; rw [hr3.out]; exact mNum_by b2y
      rw [← hr1.out] at q1
      rw [← hr2.out] at q2
      obtain ⟨n1, hn1⟩ := Int.eq_ofNat_of_zero_le q1.1
      obtain ⟨n2, hn2⟩ := Int.eq_ofNat_of_zero_le q2.1
      have n1b : n1 ≤ 6 := by omega
      have n2b : n2 ≤ 8 := by omega
      obtain ⟨rs, hrs⟩ := hidx (rep mBs n1 r3.2)
      obtain ⟨rc, hrc⟩ := hidx (rep mCd n2 rs.2)
      have hIM : Hid (mIm s0 = (.mk rs.1 rc.1 r3.1, rc.2)) := by
        show _ = _
        have e1 : mI1 s0 = r1 := by rw [hr1.out]; rfl
        have e2 : mI2 s0 = r2 := by unfold mI2; rw [e1, hr2.out]
        have e3 : mI3 s0 = r3 := by unfold mI3; rw [e2, hr3.out]
        have e4 : mIs s0 = rs := by unfold mIs; rw [e1, e3, hn1, Int.toNat_natCast, hrs.out]
        have e5 : mIc s0 = rc := by unfold mIc; rw [e2, e4, hn2, Int.toNat_natCast, hrc.out]
        unfold mIm
        rw [e3, e4, e5]
      clear q1 q2 hs0b b1y b2y
      refine (HLN _ _ h0 6 (by decide) (by decide)).mono ?_
      rintro e w1 ⟨rfl, h1, o1⟩
      rw [← hr1.out] at h1 ⊢
      rw [hn1]
      go_wp2_with fail
      refine (HLN _ _ h1 8 (by decide) (by decide)).mono ?_
      rintro e w2 ⟨rfl, h2, o2⟩
      rw [← hr2.out] at h2 ⊢
      rw [hn2]
      go_wp2_with fail
      refine (HLN _ _ h2 8 (by decide) (by decide)).mono ?_
      rintro e w3 ⟨rfl, h3, o3⟩
      rw [← hr3.out] at h3 ⊢
      have o13 := (o1.trans o2).trans o3
      have hm3 := hmb.only o13 (by omega)
      have hr3b := hrb.only o13 (by omega)
      have L3 : Later w w3 := Below.trans L0 (o13.below (by omega) (by have := hszw.out; omega))
      have hM3 := hm3.lt
      obtain ⟨zm, hzm⟩ := hidx r3.1
      rw [← hzm.out]
      obtain ⟨wd, hwd⟩ := hidx (w3.setCell ⟨M, 2, none⟩ (.int .i64 zm))
      have hd : Mc (C + 1) zs g off cap wd C r3.2 := by rw [hwd.out]; exact h3.setNew (by omega) 2 _
      have hmd : Bxx wd M [.slice none 0 0, .slice none 0 0, .int .i64 zm] := by rw [hwd.out]; exact hm3.set 2 _ (by simp)
      have hrd : Bxx wd w.heap.size [.slice none 0 0, .slice none 0 0, .int .i64 0] := by rw [hwd.out]; exact hr3b.other (by omega) _
      have Ld : Later w wd := by rw [hwd.out]; exact L3.setAt (by omega) 2 _
      have hMd : M < wd.heap.size := hmd.lt
      have hC1 : C + 1 ≤ M := by omega
      have k2 := (hm3.cell 2 _ rfl).1
      have kf2 := (hm3.cell 2 _ rfl).2
      clear h0 h1 h2 h3 hm3 hr3b hmb hrb L3 L0 o1 o2 o3 o13 hr1 hr2 hr3
      go_upto_block 0 with fail
      rw [← hwd.out]
      go_cut [8, 9, 10, 11] from 21 to 223 (fun s8 s9 s10 s11 wx => ∃ a1 m1 c1 F1, Hid (m1 = rs.1.length) ∧ Bxx wx M [.slice a1 m1 c1, .slice none 0 0, .int .i64 zm] ∧ Own wd.heap.size wx (.list 1 (Bs.dats rs.1)) [.slice a1 m1 c1] F1 ∧ Mc (C + 1) zs g off cap wx C rs.2 ∧ Bxx wx w.heap.size [.slice none 0 0, .slice none 0 0, .int .i64 0] ∧ Later w wx ∧ wd.heap.size ≤ wx.heap.size)
      case first =>
        clear hIM hir hrc
        go_wp2_with fail
        go_loopw [8] (fun i wr => ∃ (j : Nat) (l : List Bs) (xs : List Value) (F : List Nat) (t : RS) (v : Value), i = .int .i64 (j : Int) ∧ j ≤ n1 ∧ Bxx wr M [v, .slice none 0 0, .int .i64 zm] ∧ Bd wd.heap.size wr 54 1 v (Bs.dats l) xs F ∧ Mc (C + 1) zs g off cap wr C t ∧ Bxx wr w.heap.size [.slice none 0 0, .slice none 0 0, .int .i64 0] ∧ Later w wr ∧ wd.heap.size ≤ wr.heap.size ∧ Hid t.By ∧ Hid (l.length ≤ j ∧ rs = (l ++ (rep mBs (n1 - j) t).1, (rep mBs (n1 - j) t).2))) (fun i _ => n1 - (intOf i).toNat)
        case atStart => exact ⟨0, [], [], [], r3.2, _, rfl, Nat.zero_le _, hmd, Bd.nil _ _ _ _, hd, hrd, Ld, Nat.le_refl _, b3y, ⟨Nat.zero_le _, by rw [List.nil_append, Nat.sub_zero, hrs.out]⟩⟩
        case round =>
          clear hmd hd hrd Ld b3y hrs
          obtain ⟨j, l, xs, F, t, v, rfl, hj, hmR, hB, hR, hrR, lR, sR, hty, HR⟩ := hrel
          have hrow := hB.row
          obtain ⟨m, hm⟩ := hidx (Bs.dats l).length
          rw [← hm.out] at hrow
          have hml : m = l.length := by rw [hm.out, Bs.dats_len]
          have hmj : m ≤ j := by rw [hml]; exact HR.out.1
          have HML : Hid (m = l.length) := hml
          clear hml
          obtain ⟨ra, rp, rfl⟩ := row_form hrow
          have HE : Hid (rs = (l ++ (rep mBs (n1 - j) t).1, (rep mBs (n1 - j) t).2)) := HR.out.2
          have HD : Hid (rep mBs (n1 - j) t = ([], t) → ∃ a1 m1 c1 F1, Hid (m1 = rs.1.length) ∧ Bxx wr M [.slice a1 m1 c1, .slice none 0 0, .int .i64 zm] ∧ Own wd.heap.size wr (.list 1 (Bs.dats rs.1)) [.slice a1 m1 c1] F1 ∧ Mc (C + 1) zs g off cap wr C rs.2 ∧ Bxx wr w.heap.size [.slice none 0 0, .slice none 0 0, .int .i64 0] ∧ Later w wr ∧ wd.heap.size ≤ wr.heap.size) := fun e2 => by
            obtain ⟨G, hG⟩ := hB.done (by rw [Bs.dats_len, ← HML.out]; omega)
            rw [HE.out, e2, List.append_nil]
            exact ⟨ra, m, rp, G, HML.out, hmR, hG, hR, hrR, lR, sR⟩
          have hlC : C < wr.heap.size := Nat.lt_of_lt_of_le hR.lt hR.hB
          by_cases hlt : j < n1
          · have i1 : (j : Int) < (n1 : Int) := by omega
            rcases hR.c1 with ⟨hf, c1⟩ | ⟨hf, k, hk, hr, c1⟩
            · have HX : Hid _ := HD.out (rep_fin _ _ hf)
              clear HD HE HR hB hR hty
              as_aux_lemma =>
                go_wp2_with fail
                go_meet
                case rel => exact HX.out
            · have hst : rep mBs (n1 - j) t = ((mBs t).1 :: (rep mBs (n1 - (j + 1)) (mBs t).2).1, (rep mBs (n1 - (j + 1)) (mBs t).2).2) := by rw [show n1 - j = (n1 - (j + 1)) + 1 by omega, rep, if_neg (by rw [hf]; simp)]
              have q5 := mNum_nn (most := 5) hty.out (by decide)
              obtain ⟨t1, ht1⟩ := hidx (mNum 5 t)
              rw [← ht1.out] at q5
              obtain ⟨nb, hnb⟩ := Int.eq_ofNat_of_zero_le q5.1
              have hnb5 : nb ≤ 5 := by omega
              obtain ⟨rb, hrb⟩ := hidx (mBits nb t1.2)
              have HBS : Hid (mBs t = (.mk rb.1, rb.2)) := by
                show _ = _
                unfold mBs
                rw [← ht1.out, hnb, Int.toNat_natCast, ← hrb.out]
              have i0 : (0 : Int) ≤ (k : Int) := by omega
              go_wp2_with fail
              refine (HLN _ _ hR 5 (by decide) (by decide)).mono ?_
              rintro e w1 ⟨rfl, h1, o1⟩
              rw [← ht1.out] at h1 ⊢
              rw [hnb]
              have hb1 : Hid t1.2.By := by show t1.2.By; rw [ht1.out]; exact mNum_by hty.out
              have hC1b : C < w1.heap.size := Nat.lt_of_lt_of_le hlC o1.size
              go_upto_block 2 with fail
              go_cut [10, 11] from 52 to 121 (fun s10 s11 wx => ∃ a2 m2 c2 F2, s10 = .slice a2 m2 c2 ∧ Hid (m2 = rb.1.length) ∧ Own w1.heap.size wx (.list 1 (Bo.dats rb.1)) [.slice a2 m2 c2] F2 ∧ Mc (C + 1) zs g off cap wx C rb.2 ∧ OnlyK C w1 wx)
              case first =>
                clear HBS HD HE HR hB hR hmR hrR hst hty HML hm hrow
                obtain ⟨i0, hi, hz0, hz1, hz2⟩ := info_parts Try.info4
                go_wp2_with fail
                go_loopw [10, 11] (fun v2 kk wr => ∃ (i : Nat) (bs : List Bool) (ys : List Value) (G : List Nat) (t2 : RS) (lv : Value), lv = v2 ∧ kk = .int .i64 (i : Int) ∧ i ≤ nb ∧ Bd w1.heap.size wr 4 1 lv (Bo.dats bs) ys G ∧ Mc (C + 1) zs g off cap wr C t2 ∧ OnlyK C w1 wr ∧ Hid (bs.length ≤ i ∧ rb = (bs ++ (mBits (nb - i) t2).1, (mBits (nb - i) t2).2))) (fun _ kk _ => nb - (intOf kk).toNat)
                case atStart => exact ⟨0, [], [], [], t1.2, _, rfl, rfl, Nat.zero_le _, Bd.nil _ _ _ _, h1, OnlyK.refl _ _, ⟨Nat.zero_le _, by rw [List.nil_append, Nat.sub_zero, hrb.out]⟩⟩
                case round =>
                  clear h1 hrb ht1 hb1
                  obtain ⟨i, bs, ys, G, t2, lv, rfl, rfl, hiN, hB2, hR2, oR2, HR2⟩ := hrel
                  have hrow2 := hB2.row
                  obtain ⟨m2, hm2⟩ := hidx (Bo.dats bs).length
                  rw [← hm2.out] at hrow2
                  have hml2 : m2 = bs.length := by rw [hm2.out, Bo.dats_len]
                  have hmi : m2 ≤ i := by rw [hml2]; exact HR2.out.1
                  have HML2 : Hid (m2 = bs.length) := hml2
                  clear hml2
                  obtain ⟨sa2, sp2, rfl⟩ := row_form hrow2
                  have HE2 : Hid (rb = (bs ++ (mBits (nb - i) t2).1, (mBits (nb - i) t2).2)) := HR2.out.2
                  have HD2 : Hid (∀ wz t3, mBits (nb - i) t2 = ([], t3) → Bd w1.heap.size wz 4 1 (.slice sa2 m2 sp2) (Bo.dats bs) ys G → Mc (C + 1) zs g off cap wz C t3 → OnlyK C w1 wz → ∃ a2 m3 c2 F2, Value.slice sa2 m2 sp2 = .slice a2 m3 c2 ∧ Hid (m3 = rb.1.length) ∧ Own w1.heap.size wz (.list 1 (Bo.dats rb.1)) [.slice a2 m3 c2] F2 ∧ Mc (C + 1) zs g off cap wz C rb.2 ∧ OnlyK C w1 wz) := fun wz t3 e2 b2 r2 o2 => by
                    obtain ⟨G2, hG2⟩ := b2.done (by rw [Bo.dats_len, ← HML2.out]; omega)
                    rw [HE2.out, e2, List.append_nil]
                    exact ⟨sa2, m2, sp2, G2, rfl, HML2.out, hG2, r2, o2⟩
                  have hlC2 : C < wr.heap.size := Nat.lt_of_lt_of_le hR2.lt hR2.hB
                  have hgl2 : g < wr.heap.size := Nat.lt_of_lt_of_le hR2.hg hR2.hB
                  have f1 := hR2.f1
                  by_cases hlt2 : i < nb
                  · have j1 : (i : Int) < (nb : Int) := by omega
                    rcases hR2.c1 with ⟨hf2, c2⟩ | ⟨hf2, k2, hk2, hr2, c2⟩
                    · have HX : Hid _ := HD2.out wr t2 (mBits_fin _ _ hf2) hB2 hR2 oR2
                      clear HD2 HE2 HR2 hB2 hR2
                      as_aux_lemma =>
                        go_wp2_with fail
                        go_meet
                        case rel => exact HX.out
                    · have j0 : (0 : Int) ≤ (k2 : Int) := by omega
                      have HBAD : Hid (mBits (nb - i) t2 = ([], badS) → _) := fun e => HD2.out (wr.setCell ⟨C, 1, none⟩ (.int .i64 (-1))) badS e (hB2.kept ((Kept.refl _ _).setAt hC1b 1 _)) hR2.bad (oR2.set 1 _)
                      by_cases hkN : k2 < zs.length
                      · have j2 : ¬ (zs.length : Int) ≤ (k2 : Int) := by omega
                        have cz := hR2.cs k2 hkN
                        have hdr : t2.rest = zs[k2] :: zs.drop (k2 + 1) := by rw [hr2, List.drop_eq_getElem_cons hkN]
                        by_cases ha : zs[k2] ≤ 1
                        · have j3 : ¬ 1 < zs[k2] := by omega
                          have est : mBits (nb - i) t2 = ((zs[k2] == 1) :: (mBits (nb - (i + 1)) ⟨zs.drop (k2 + 1), false⟩).1, (mBits (nb - (i + 1)) ⟨zs.drop (k2 + 1), false⟩).2) := by rw [show nb - i = (nb - (i + 1)) + 1 by omega]; exact mBits_in _ _ hf2 hdr ha
                          have HPU : Hid (∀ v9 w9, w9.ownsRow w1.heap.size 4 1 v9 (m2 + 1) (ys ++ [.bool (zs[k2] == 1)]) → (wr.alloc (.cells #[.bool (zs[k2] == 1)] 4)).grownBy w9 (Value.slice sa2 m2 sp2).ownBlock → (v9.ownBlock = (Value.slice sa2 m2 sp2).ownBlock ∨ v9.ownBlock = some (wr.alloc (.cells #[.bool (zs[k2] == 1)] 4)).heap.size) → ∃ F9, Bd w1.heap.size (w9.setCell ⟨C, 1, none⟩ (.int .i64 ((k2 : Int) + 1))) 4 1 v9 (Bo.dats (bs ++ [(zs[k2] == 1)])) (ys ++ [.bool (zs[k2] == 1)]) F9 ∧ Mc (C + 1) zs g off cap (w9.setCell ⟨C, 1, none⟩ (.int .i64 ((k2 : Int) + 1))) C ⟨zs.drop (k2 + 1), false⟩ ∧ OnlyK C w1 (w9.setCell ⟨C, 1, none⟩ (.int .i64 ((k2 : Int) + 1))) ∧ w9.cell? ⟨C, 1, none⟩ = some (.int .i64 (k2 : Int)) ∧ w9.frozen? ⟨C, 1, none⟩ = false ∧ C < w9.heap.size ∧ Hid ((bs ++ [(zs[k2] == 1)]).length ≤ i + 1 ∧ rb = (bs ++ [(zs[k2] == 1)] ++ (mBits (nb - (i + 1)) ⟨zs.drop (k2 + 1), false⟩).1, (mBits (nb - (i + 1)) ⟨zs.drop (k2 + 1), false⟩).2))) := fun v9 w9 o9 g9 h9 => by
                            as_aux_lemma =>
                              rw [Bo.dats_app]
                              have hvb : ∀ g, (Value.slice sa2 m2 sp2).ownBlock = some g → w1.heap.size ≤ g := fun g hg => (hrow2.lt g hg).1
                              have hB9 := Bd.push (d := Dat.bool (zs[k2] == 1)) (G := []) hB2 rfl (Own.mk' (by rw [OwnD]; exact ⟨rfl, rfl⟩) (Fr.nil _ _)) (Kept.refl _ _) ((later1 wr _).kept _) oR2.size (by rw [Bo.dats_len, ← HML2.out]; exact o9) g9 h9
                              have hbe : Below (C + 1) wr w9 := Below.trans (Below.mono (later1 wr (.cells #[.bool (zs[k2] == 1)] 4)) hR2.hB) ⟨g9.os, g9.tape, g9.output, g9.size, fun b hb => g9.block b (by have := (later1 wr (.cells #[.bool (zs[k2] == 1)] 4)).size; omega) (fun e => by have := hvb b e.symm; omega)⟩
                              refine ⟨_, hB9.kept ((Kept.refl _ _).setAt hC1b 1 _), (hR2.below hbe).move (k2 + 1) (by omega), (only_grown (oR2.alloc _) g9 hvb).set 1 _, by rw [Below.cell hbe (p := ⟨C, 1, none⟩) (Nat.lt_succ_self _)]; exact c2, by rw [Below.frozen hbe (p := ⟨C, 1, none⟩) (Nat.lt_succ_self _)]; exact f1, Nat.lt_of_lt_of_le hlC2 hbe.size, ⟨by rw [List.length_append, List.length_singleton, ← HML2.out]; omega, by rw [HE2.out, est, List.append_assoc]; rfl⟩⟩
                          have hrA := hrow2
                          have bA : w1.heap.size ≤ wr.heap.size := oR2.size
                          clear HBAD HD2 HE2 HR2 hB2 hR2 est hdr
                          generalize zs[k2] = za at *
                          go_wp2_with (at_builtin; refine wpList_append_own_at _ rfl _ _ 54 rfl w1.heap.size 4 i0 (.bool false) 1 1 Try.underlying54 hi hz0 hz1 hz2 rfl (by decide) _ _ _ rfl (hrA.alloc _) _ 1 1 [.bool (za == 1)] rfl rfl (new_row _ _ _ (by simp)) (by simp [Value.oneCell']) (by unfold maxLen; omega) (by omega) (Nat.le_trans bA (later1 _ _).size) ?_; intro v9 w9 o9 g9 _ h9; obtain ⟨F9, B9, R9, O9, c9, f9, l9, H9⟩ := HPU.out _ _ o9 g9 h9; obtain ⟨a9, p9, hv9⟩ := row_form o9; rw [hv9] at B9 ⊢; clear o9 g9 h9 HPU)
                          go_roundw
                          case rel => exact ⟨i + 1, _, _, _, _, _, rfl, by go_num, by omega, B9, R9, O9, H9⟩
                          case measure => simp [intOf]; omega
                        · have j3 : 1 < zs[k2] := by omega
                          have HX : Hid _ := HBAD.out (by rw [show nb - i = (nb - (i + 1)) + 1 by omega]; exact mBits_big _ _ hf2 hdr ha)
                          clear HBAD HD2 HE2 HR2 hB2 hR2 hdr
                          generalize zs[k2] = za at *
                          as_aux_lemma =>
                            go_wp2_with fail
                            go_meet
                            case rel => exact HX.out
                      · have j2 : (zs.length : Int) ≤ (k2 : Int) := by omega
                        have HX : Hid _ := HBAD.out (by rw [show nb - i = (nb - (i + 1)) + 1 by omega]; exact mBits_end _ _ hf2 (by rw [hr2, List.drop_eq_nil_of_le (by omega)]))
                        clear HBAD HD2 HE2 HR2 hB2 hR2
                        as_aux_lemma =>
                          go_wp2_with fail
                          go_meet
                          case rel => exact HX.out
                  · have j1 : ¬ (i : Int) < (nb : Int) := by omega
                    have j2 : decide ((i : Int) < (nb : Int)) = false := decide_eq_false j1
                    have HX : Hid _ := HD2.out wr t2 (by rw [show nb - i = 0 by omega]; rfl) hB2 hR2 oR2
                    clear HD2 HE2 HR2 hB2 hR2
                    as_aux_lemma =>
                      go_wp2_with fail
                      go_meet
                      case rel => exact HX.out
              case rest =>
                obtain ⟨a2, m2, c2, F2, rfl, hm2, ho2, h2, o2⟩ := hcut
                obtain ⟨i0, hi, hz0, hz1, hz2⟩ := info_parts Try.info54
                have o12 := o1.trans o2
                have hmW := hmR.only o12 (by omega)
                have hrW := hrR.only o12 (by omega)
                have lW : Later w wc := Below.trans lR (o12.below (by omega) (by have := lR.size; omega))
                have hO2 : Own wr.heap.size wc (Bs.dat (mBs t).1) [.slice a2 m2 c2] F2 := by rw [HBS.out]; exact (Own.mk' (Bs.own (x := .mk rb.1) ho2.own) ho2.fr).mono o1.size
                have hk1 : Kept wd.heap.size wr wc := ⟨o12.size, fun b hb hl => o12.block b hl (by omega)⟩
                have hby2 : Hid (mBs t).2.By := mBs_mp.by8 t hty.out
                have h2' : Mc (C + 1) zs g off cap wc C (mBs t).2 := by rw [HBS.out]; exact h2
                have HPU : Hid (∀ v9 w9, w9.ownsRow wd.heap.size 54 1 v9 (m + 1) (xs ++ [.slice a2 m2 c2]) → (wc.alloc (.cells #[.slice a2 m2 c2] 54)).grownBy w9 (Value.slice ra m rp).ownBlock → (v9.ownBlock = (Value.slice ra m rp).ownBlock ∨ v9.ownBlock = some (wc.alloc (.cells #[.slice a2 m2 c2] 54)).heap.size) → ∃ F9, Bd wd.heap.size (w9.setCell ⟨M, 0, none⟩ v9) 54 1 v9 (Bs.dats (l ++ [(mBs t).1])) (xs ++ [.slice a2 m2 c2]) F9 ∧ Bxx (w9.setCell ⟨M, 0, none⟩ v9) M [v9, .slice none 0 0, .int .i64 zm] ∧ Mc (C + 1) zs g off cap (w9.setCell ⟨M, 0, none⟩ v9) C (mBs t).2 ∧ Bxx (w9.setCell ⟨M, 0, none⟩ v9) w.heap.size [.slice none 0 0, .slice none 0 0, .int .i64 0] ∧ Later w (w9.setCell ⟨M, 0, none⟩ v9) ∧ wd.heap.size ≤ (w9.setCell ⟨M, 0, none⟩ v9).heap.size ∧ (∃ u, w9.cell? ⟨M, 0, none⟩ = some u) ∧ w9.frozen? ⟨M, 0, none⟩ = false ∧ M < w9.heap.size ∧ Hid ((l ++ [(mBs t).1]).length ≤ j + 1 ∧ rs = (l ++ [(mBs t).1] ++ (rep mBs (n1 - (j + 1)) (mBs t).2).1, (rep mBs (n1 - (j + 1)) (mBs t).2).2))) := fun v9 w9 o9 g9 h9 => by
                  as_aux_lemma =>
                    rw [Bs.dats_app]
                    have hvb : ∀ g, (Value.slice ra m rp).ownBlock = some g → wd.heap.size ≤ g := fun g hg => (hrow.lt g hg).1
                    have hB9 := Bd.push hB rfl hO2 hk1 ((later1 wc _).kept _) sR (by rw [Bs.dats_len, ← HML.out]; exact o9) g9 h9
                    have s9 : wc.heap.size ≤ w9.heap.size := Nat.le_trans (later1 wc _).size g9.size
                    have hbe : Below wd.heap.size wc w9 := Below.trans (Below.mono (later1 wc (.cells #[.slice a2 m2 c2] 54)) (Nat.le_trans sR o12.size)) ⟨g9.os, g9.tape, g9.output, g9.size, fun b hb => g9.block b (by have := (later1 wc (.cells #[.slice a2 m2 c2] 54)).size; have := o12.size; omega) (fun e => by have := hvb b e.symm; omega)⟩
                    have hm9 : Bxx w9 M [.slice ra m rp, .slice none 0 0, .int .i64 zm] := hmW.kept s9 (hbe.block M hMd)
                    have hr9 : Bxx w9 w.heap.size [.slice none 0 0, .slice none 0 0, .int .i64 0] := hrW.kept s9 (hbe.block _ (by omega))
                    have l9 : Later w w9 := Below.trans lW (Below.mono hbe (by omega))
                    have hR9 := h2'.below (Below.mono hbe (by omega))
                    refine ⟨_, hB9.kept ((Kept.refl _ _).setAt hMd 0 _), hm9.set 0 v9 (by simp), hR9.setNew hC1 0 _, hr9.other (by omega) _, l9.setAt (by omega) 0 _, by rw [World.size_setCell]; have := o12.size; omega, ⟨_, (hm9.cell 0 _ rfl).1⟩, (hm9.cell 0 _ rfl).2, hm9.lt, ⟨by rw [List.length_append, List.length_singleton, ← HML.out]; omega, by rw [HE.out, hst, List.append_assoc]; rfl⟩⟩
                have hrA := row_kept hrow hk1
                have bA : wd.heap.size ≤ wc.heap.size := Nat.le_trans sR o12.size
                have x0 := (hmW.cell 0 _ rfl).1
                have xl := hmW.lt
                clear HD HE HR hB hR hmR hrR hst hO2 ho2 h2 h2' HBS hk1 hmW hrW lW hm2 hty
                go_wp2_with (at_builtin; refine wpList_append_own_at _ rfl _ _ 29 rfl wd.heap.size 54 i0 (.slice none 0 0) 1 24 Try.underlying29 hi hz0 hz1 hz2 rfl (by decide) _ _ _ rfl (hrA.alloc _) _ 1 1 [.slice a2 m2 c2] rfl rfl (new_row _ _ _ (by simp)) (by simp [Value.oneCell']) (by unfold maxLen; omega) (by omega) (Nat.le_trans bA (later1 _ _).size) ?_; intro v9 w9 o9 g9 _ h9; obtain ⟨F9, B9, M9, R9, Z9, L9, S9, ⟨u9, c9⟩, f9, k9, H9⟩ := HPU.out _ _ o9 g9 h9; obtain ⟨a9, p9, hv9⟩ := row_form o9; rw [hv9] at B9 M9 R9 Z9 L9 S9 ⊢; clear o9 g9 h9 HPU)
                go_roundw
                case rel => exact ⟨j + 1, _, _, _, _, _, by go_num, by omega, M9, B9, R9, Z9, L9, S9, hby2, H9⟩
                case measure => simp [intOf]; omega
          · have i1 : ¬ (j : Int) < (n1 : Int) := by omega
            have i2 : decide ((j : Int) < (n1 : Int)) = false := decide_eq_false i1
            have HX : Hid _ := HD.out (by rw [show n1 - j = 0 by omega]; rfl)
            clear HD HE HR hB hR hty
            as_aux_lemma =>
              go_wp2_with fail
              go_meet
              case rel => exact HX.out
      case rest =>
        obtain ⟨a1, m1, c1, F1, hm1, hmX, hoS, hcX, hrX, lX, sX⟩ := hcut
        obtain ⟨we, hwe⟩ : ∃ we, we = wc := ⟨_, rfl⟩
        subst hwe
        have hrsy : Hid rs.2.By := by show rs.2.By; rw [hrs.out]; exact (Mp.rep (encs := bssL) rfl (fun _ _ => rfl) mBs_mp _ _ b3y.out).1
        clear hmd hd hrd Ld hrs b3y
        go_upto_block 4 with fail
        go_cut [12, 13, 14, 15, 16, 17, 18, 19, 20] from 21 to 223 (fun s12 s13 s14 s15 s16 s17 s18 s19 s20 wx => ∃ a2 m2 c2 F2, Hid (m2 = rc.1.length) ∧ Bxx wx M [.slice a1 m1 c1, .slice a2 m2 c2, .int .i64 zm] ∧ Own we.heap.size wx (.list 4 (Cd.dats rc.1)) [.slice a2 m2 c2] F2 ∧ Mc (C + 1) zs g off cap wx C rc.2 ∧ Bxx wx w.heap.size [.slice none 0 0, .slice none 0 0, .int .i64 0] ∧ Later w wx ∧ Kept wd.heap.size we wx)
        case first =>
          clear hir hIM
          obtain ⟨i0c, hic, hzc0, hzc1, hzc2⟩ := info_parts Try.info58
          have HLO := fun w' t (r : Mc (C + 1) zs g off cap w' C t) => lone_any r
          go_wp2_with fail
          go_loopw [12] (fun ii wr => ∃ (j : Nat) (l : List Cd) (xs : List Value) (F : List Nat) (t : RS) (v : Value), ii = .int .i64 (j : Int) ∧ j ≤ n2 ∧ Bxx wr M [.slice a1 m1 c1, v, .int .i64 zm] ∧ Bd we.heap.size wr 58 4 v (Cd.dats l) xs F ∧ Mc (C + 1) zs g off cap wr C t ∧ Bxx wr w.heap.size [.slice none 0 0, .slice none 0 0, .int .i64 0] ∧ Later w wr ∧ Kept wd.heap.size we wr ∧ Hid t.By ∧ Hid (l.length ≤ j ∧ rc = (l ++ (rep mCd (n2 - j) t).1, (rep mCd (n2 - j) t).2))) (fun ii _ => n2 - (intOf ii).toNat)
          case atStart => exact ⟨0, [], [], [], rs.2, _, rfl, Nat.zero_le _, hmX, Bd.nil _ _ _ _, hcX, hrX, lX, Kept.refl _ _, hrsy, ⟨Nat.zero_le _, by rw [List.nil_append, Nat.sub_zero, hrc.out]⟩⟩
          case round =>
            clear hmX hcX hrX lX hrsy hrc hoS
            obtain ⟨j, l, xs, F, t, v, rfl, hj, hmR, hB, hR, hrR, lR, kR, hty, HR⟩ := hrel
            have hrow := hB.row
            obtain ⟨m, hm⟩ := hidx (Cd.dats l).length
            rw [← hm.out] at hrow
            have hml : m = l.length := by rw [hm.out, Cd.dats_len]
            have hmj : m ≤ j := by rw [hml]; exact HR.out.1
            have HML : Hid (m = l.length) := hml
            clear hml
            obtain ⟨ra, rp, rfl⟩ := row_form hrow
            have HE : Hid (rc = (l ++ (rep mCd (n2 - j) t).1, (rep mCd (n2 - j) t).2)) := HR.out.2
            have HD : Hid (rep mCd (n2 - j) t = ([], t) → ∃ a2 m2 c2 F2, Hid (m2 = rc.1.length) ∧ Bxx wr M [.slice a1 m1 c1, .slice a2 m2 c2, .int .i64 zm] ∧ Own we.heap.size wr (.list 4 (Cd.dats rc.1)) [.slice a2 m2 c2] F2 ∧ Mc (C + 1) zs g off cap wr C rc.2 ∧ Bxx wr w.heap.size [.slice none 0 0, .slice none 0 0, .int .i64 0] ∧ Later w wr ∧ Kept wd.heap.size we wr) := fun e2 => by
              obtain ⟨G, hG⟩ := hB.done (by rw [Cd.dats_len, ← HML.out]; omega)
              rw [HE.out, e2, List.append_nil]
              exact ⟨ra, m, rp, G, HML.out, hmR, hG, hR, hrR, lR, kR⟩
            have hlC : C < wr.heap.size := Nat.lt_of_lt_of_le hR.lt hR.hB
            by_cases hlt : j < n2
            · have i1 : (j : Int) < (n2 : Int) := by omega
              rcases hR.c1 with ⟨hf, cA⟩ | ⟨hf, k, hk, hr, cA⟩
              · have HX : Hid _ := HD.out (rep_fin _ _ hf)
                clear HD HE HR hB hR hty
                as_aux_lemma =>
                  go_wp2_with fail
                  go_meet
                  case rel => exact HX.out
              · skip
                have hst : rep mCd (n2 - j) t = ((mCd t).1 :: (rep mCd (n2 - (j + 1)) (mCd t).2).1, (rep mCd (n2 - (j + 1)) (mCd t).2).2) := by rw [show n2 - j = (n2 - (j + 1)) + 1 by omega, rep, if_neg (by rw [hf]; simp)]
                obtain ⟨c1n, hc1n⟩ := hidx (mNum 1000 t)
                obtain ⟨c2n, hc2n⟩ := hidx (mNum 4 c1n.2)
                obtain ⟨c3, hc3⟩ := hidx (mNum 6000 c2n.2)
                obtain ⟨c4, hc4⟩ := hidx (mNum 6000 c3.2)
                have y1 : c1n.2.By := by rw [hc1n.out]; exact mNum_by hty.out
                have y2 : c2n.2.By := by rw [hc2n.out]; exact mNum_by y1
                have y3 : c3.2.By := by rw [hc3.out]; exact mNum_by y2
                have b4y : Hid c4.2.By := by show c4.2.By; rw [hc4.out]; exact mNum_by y3
                have q3 := mNum_nn (most := 6000) y2 (by decide)
                have q4 := mNum_nn (most := 6000) y3 (by decide)
                rw [← hc3.out] at q3
                rw [← hc4.out] at q4
                obtain ⟨ni, hni⟩ := Int.eq_ofNat_of_zero_le q3.1
                obtain ⟨nm, hnm⟩ := Int.eq_ofNat_of_zero_le q4.1
                have hni2 : ni ≤ 6000 := by omega
                have hnm2 : nm ≤ 6000 := by omega
                obtain ⟨ri, hri⟩ := hidx (rep mOne ni c4.2)
                obtain ⟨rm, hrm⟩ := hidx (rep mMa nm ri.2)
                obtain ⟨zf, hzf⟩ := hidx c1n.1
                obtain ⟨zp, hzp⟩ := hidx c2n.1
                have HCD : Hid (mCd t = (.mk zf zp ri.1 rm.1, rm.2)) := by
                  show _ = _
                  have e1 : mC1 t = c1n := by rw [hc1n.out]; rfl
                  have e2 : mC2 t = c2n := by unfold mC2; rw [e1, hc2n.out]
                  have e3 : mC3 t = c3 := by unfold mC3; rw [e2, hc3.out]
                  have e4 : mC4 t = c4 := by unfold mC4; rw [e3, hc4.out]
                  have e5 : mCi t = ri := by unfold mCi; rw [e3, e4, hni, Int.toNat_natCast, hri.out]
                  have e6 : mCm t = rm := by unfold mCm; rw [e4, e5, hnm, Int.toNat_natCast, hrm.out]
                  unfold mCd
                  rw [e1, e2, e5, e6, hzf.out, hzp.out]
                clear q3 q4 y1 y2 y3
                have i0 : (0 : Int) ≤ (k : Int) := by omega
                go_wp2_with fail
                refine (HLN _ _ hR 1000 (by decide) (by decide)).mono ?_
                rintro e w1 ⟨rfl, h1, o1⟩
                rw [← hc1n.out] at h1 ⊢
                go_wp2_with fail
                refine (HLN _ _ h1 4 (by decide) (by decide)).mono ?_
                rintro e w2 ⟨rfl, h2, o2⟩
                rw [← hc2n.out] at h2 ⊢
                rw [← hzf.out, ← hzp.out]
                have o12 := o1.trans o2
                obtain ⟨X, hX⟩ := hidx w2.heap.size
                obtain ⟨wx, hwx⟩ := hidx (w2.alloc (.cells #[.int .i64 zf, .int .i64 zp, .slice none 0 0, .slice none 0 0] 58))
                have lx : Later w2 wx := by rw [hwx.out]; exact later1 _ _
                have hxx : Bxx wx X [.int .i64 zf, .int .i64 zp, .slice none 0 0, .slice none 0 0] := by rw [hwx.out, hX.out]; exact Bxx.new _ _ _
                have h2x := h2.later lx
                have ox : OnlyK C wr wx := o12.trans (OnlyK.of_later lx)
                have hXwr : wr.heap.size ≤ X := by rw [hX.out]; exact o12.size
                have hXC : X ≠ C := by omega
                have hwxX : wr.heap.size ≤ wx.heap.size := ox.size
                go_wp2_with fail
                rw [← hwx.out, ← hX.out]
                refine (HLN _ _ h2x 6000 (by decide) (by decide)).mono ?_
                rintro e w3 ⟨rfl, h3, o3⟩
                rw [← hc3.out] at h3 ⊢
                rw [hni]
                go_wp2_with fail
                refine (HLN _ _ h3 6000 (by decide) (by decide)).mono ?_
                rintro e w4 ⟨rfl, h4, o4⟩
                rw [← hc4.out] at h4 ⊢
                rw [hnm]
                have o34 := o3.trans o4
                have hx4 : Bxx w4 X [.int .i64 zf, .int .i64 zp, .slice none 0 0, .slice none 0 0] := hxx.only o34 hXC
                have ow4 : OnlyK C wr w4 := ox.trans o34
                have hX4 : X < w4.heap.size := hx4.lt
                have hC4 : C < w4.heap.size := by omega
                have hC1X : C + 1 ≤ X := by omega
                clear h1 h2 h2x h3 hxx hc1n hc2n hc3 hc4
                go_upto_block 6 with fail
                go_cut [16] from 122 to 209 (fun s16 wx => ∃ a m c F, Hid (m = ri.1.length) ∧ Bxx wx X [.int .i64 zf, .int .i64 zp, .slice a m c, .slice none 0 0] ∧ Own w4.heap.size wx (.list 5 (Is.dats ri.1)) [.slice a m c] F ∧ Mc (C + 1) zs g off cap wx C ri.2 ∧ O2 C X w4 wx ∧ Hid ri.2.By)
                case first =>
                  obtain ⟨i0, hi, hz0, hz1, hz2⟩ := info_parts Try.info60
                  go_wp2_with fail
                  go_loopw [16] (fun kk wr => ∃ (i : Nat) (l : List Is) (ys : List Value) (G : List Nat) (t : RS) (v : Value), kk = .int .i64 (i : Int) ∧ i ≤ ni ∧ Bxx wr X [.int .i64 zf, .int .i64 zp, v, .slice none 0 0] ∧ Bd w4.heap.size wr 60 5 v (Is.dats l) ys G ∧ Mc (C + 1) zs g off cap wr C t ∧ O2 C X w4 wr ∧ Hid t.By ∧ Hid (l.length ≤ i ∧ ri = (l ++ (rep mOne (ni - i) t).1, (rep mOne (ni - i) t).2))) (fun kk _ => ni - (intOf kk).toNat)
                  case atStart => exact ⟨0, [], [], [], c4.2, _, rfl, Nat.zero_le _, hx4, Bd.nil _ _ _ _, h4, O2.refl _ _ _, b4y, ⟨Nat.zero_le _, by rw [List.nil_append, Nat.sub_zero, hri.out]⟩⟩
                  case round =>
                    clear h4 hx4 b4y hri
                    obtain ⟨i, l, ys, G, t, v, rfl, hiN, hxR, hB, hR, oR, hty, HR⟩ := hrel
                    have hrow := hB.row
                    obtain ⟨m, hm⟩ := hidx (Is.dats l).length
                    rw [← hm.out] at hrow
                    have hml : m = l.length := by rw [hm.out, Is.dats_len]
                    have hmi : m ≤ i := by rw [hml]; exact HR.out.1
                    have HML : Hid (m = l.length) := hml
                    clear hml
                    obtain ⟨ra, rp, rfl⟩ := row_form hrow
                    have HE : Hid (ri = (l ++ (rep mOne (ni - i) t).1, (rep mOne (ni - i) t).2)) := HR.out.2
                    have HD : Hid (rep mOne (ni - i) t = ([], t) → ∃ a m c F, Hid (m = ri.1.length) ∧ Bxx wr X [.int .i64 zf, .int .i64 zp, .slice a m c, .slice none 0 0] ∧ Own w4.heap.size wr (.list 5 (Is.dats ri.1)) [.slice a m c] F ∧ Mc (C + 1) zs g off cap wr C ri.2 ∧ O2 C X w4 wr ∧ Hid ri.2.By) := fun e2 => by
                      obtain ⟨G2, hG2⟩ := hB.done (by rw [Is.dats_len, ← HML.out]; omega)
                      rw [HE.out, e2, List.append_nil]
                      exact ⟨ra, m, rp, G2, HML.out, hxR, hG2, hR, oR, hty.out⟩
                    have hlC : C < wr.heap.size := Nat.lt_of_lt_of_le hR.lt hR.hB
                    by_cases hlt : i < ni
                    · have i1 : (i : Int) < (ni : Int) := by omega
                      rcases hR.c1 with ⟨hf, c1⟩ | ⟨hf, k2, hk2, hr2, c1⟩
                      · have HX : Hid _ := HD.out (rep_fin _ _ hf)
                        clear HD HE HR hB hR hty
                        as_aux_lemma =>
                          go_wp2_with fail
                          go_meet
                          case rel => exact HX.out
                      · have j0 : (0 : Int) ≤ (k2 : Int) := by omega
                        have hst : rep mOne (ni - i) t = ((mOne t).1 :: (rep mOne (ni - (i + 1)) (mOne t).2).1, (rep mOne (ni - (i + 1)) (mOne t).2).2) := by rw [show ni - i = (ni - (i + 1)) + 1 by omega, rep, if_neg (by rw [hf]; simp)]
                        have hRD := hR.later (Later.drew wr)
                        have hxD := hxR.later (Later.drew wr)
                        have hby1 : Hid (mOne t).2.By := mOne_mp.by8 t hty.out
                        have x2 := (hxR.cell 2 _ rfl).1
                        have xD := (hxD.cell 2 _ rfl).1
                        have xl := hxR.lt
                        have HPU : Hid (∀ w5 z0 z1 z2 z3 z4, OnlyK C wr.drew w5 → Mc (C + 1) zs g off cap w5 C (mOne t).2 → Own wr.heap.size w5 (Is.dat (mOne t).1) [.int .i64 z0, .int .i64 z1, .int .i64 z2, .int .i64 z3, .int .i64 z4] [] → (w5.ownsRow w4.heap.size 60 5 (.slice ra m rp) m ys ∧ w4.heap.size ≤ w5.heap.size ∧ w5.cell? ⟨X, 2, none⟩ = some (.slice ra m rp) ∧ X < w5.heap.size) ∧ ∀ v9 w9, w9.ownsRow w4.heap.size 60 5 v9 (m + 1) (ys ++ [.int .i64 z0, .int .i64 z1, .int .i64 z2, .int .i64 z3, .int .i64 z4]) → (w5.alloc (.cells #[.int .i64 z0, .int .i64 z1, .int .i64 z2, .int .i64 z3, .int .i64 z4] 60)).grownBy w9 (Value.slice ra m rp).ownBlock → (v9.ownBlock = (Value.slice ra m rp).ownBlock ∨ v9.ownBlock = some (w5.alloc (.cells #[.int .i64 z0, .int .i64 z1, .int .i64 z2, .int .i64 z3, .int .i64 z4] 60)).heap.size) → ∃ F9, Bd w4.heap.size (w9.setCell ⟨X, 2, none⟩ v9) 60 5 v9 (Is.dats (l ++ [(mOne t).1])) (ys ++ [.int .i64 z0, .int .i64 z1, .int .i64 z2, .int .i64 z3, .int .i64 z4]) F9 ∧ Bxx (w9.setCell ⟨X, 2, none⟩ v9) X [.int .i64 zf, .int .i64 zp, v9, .slice none 0 0] ∧ Mc (C + 1) zs g off cap (w9.setCell ⟨X, 2, none⟩ v9) C (mOne t).2 ∧ O2 C X w4 (w9.setCell ⟨X, 2, none⟩ v9) ∧ (∃ u, w9.cell? ⟨X, 2, none⟩ = some u) ∧ w9.frozen? ⟨X, 2, none⟩ = false ∧ X < w9.heap.size ∧ Hid ((l ++ [(mOne t).1]).length ≤ i + 1 ∧ ri = (l ++ [(mOne t).1] ++ (rep mOne (ni - (i + 1)) (mOne t).2).1, (rep mOne (ni - (i + 1)) (mOne t).2).2))) := fun w5 z0 z1 z2 z3 z4 o5 h5 hO5 => by
                          as_aux_lemma =>
                            have oW : O2 C X w4 w5 := (oR.trans (O2.of_later (Later.drew _))).trans (O2.of_only o5)
                            have hk5 : Kept w4.heap.size wr w5 := ⟨(Nat.le_trans (Later.drew wr).size o5.size), fun b hb hl => by rw [o5.block b hl (by omega)]; exact (Later.drew wr).block b hl⟩
                            have hx5 : Bxx w5 X [.int .i64 zf, .int .i64 zp, .slice ra m rp, .slice none 0 0] := hxD.only o5 (by omega)
                            refine ⟨⟨row_kept hrow hk5, oW.size, (hx5.cell 2 _ rfl).1, hx5.lt⟩, fun v9 w9 o9 g9 h9 => ?_⟩
                            rw [Is.dats_app]
                            have hvb : ∀ g, (Value.slice ra m rp).ownBlock = some g → w4.heap.size ≤ g := fun g hg => (hrow.lt g hg).1
                            have hB9 := Bd.push (G := []) hB rfl hO5 hk5 ((later1 w5 _).kept _) oR.size (by rw [Is.dats_len, ← HML.out]; exact o9) g9 h9
                            have s9 : w5.heap.size ≤ w9.heap.size := Nat.le_trans (later1 w5 _).size g9.size
                            have hbe : Below w4.heap.size w5 w9 := Below.trans (Below.mono (later1 w5 (.cells #[.int .i64 z0, .int .i64 z1, .int .i64 z2, .int .i64 z3, .int .i64 z4] 60)) oW.size) ⟨g9.os, g9.tape, g9.output, g9.size, fun b hb => g9.block b (by have := (later1 w5 (.cells #[.int .i64 z0, .int .i64 z1, .int .i64 z2, .int .i64 z3, .int .i64 z4] 60)).size; have := oW.size; omega) (fun e => by have := hvb b e.symm; omega)⟩
                            have hx9 : Bxx w9 X [.int .i64 zf, .int .i64 zp, .slice ra m rp, .slice none 0 0] := hx5.kept s9 (hbe.block _ (by omega))
                            have hR9 := h5.below (Below.mono hbe (by omega))
                            refine ⟨_, hB9.kept ((Kept.refl _ _).setAt (by omega) 2 _), hx9.set 2 v9 (by simp), hR9.setNew (by omega) 2 _, ((oW.trans (O2.of_later (later1 _ _))).grown g9 hvb).setX 2 _, ⟨_, (hx9.cell 2 _ rfl).1⟩, (hx9.cell 2 _ rfl).2, hx9.lt, ⟨by rw [List.length_append, List.length_singleton, ← HML.out]; omega, by rw [HE.out, hst, List.append_assoc]; rfl⟩⟩
                        have HCALL := HLO _ _ hRD
                        clear HD HE HR hB hR hst
                        go_wp2_with fail
                        go_region_law (first | (go_simp; go_at_call 25; refine HCALL.mono ?_; rintro e w5 ⟨z0, z1, z2, z3, z4, rfl, hz, h5, o5⟩; obtain ⟨⟨hrA, bA, y2, yl⟩, HP2⟩ := HPU.out w5 z0 z1 z2 z3 z4 o5 h5 (by obtain ⟨e0, e1, e2, e3, e4⟩ := hz; subst e0 e1 e2 e3 e4; exact Own.mk' (Is.own _ _) (Fr.nil _ _)); clear hz) | (refine step_append_at rfl _ _ 55 rfl w4.heap.size 60 i0 (.agg #[.int .i64 0, .int .i64 0, .int .i64 0, .int .i64 0, .int .i64 0]) 5 40 Try.underlying55 hi hz0 hz1 hz2 rfl (by decide) _ _ _ rfl (hrA.alloc _) _ 1 1 [.int .i64 z0, .int .i64 z1, .int .i64 z2, .int .i64 z3, .int .i64 z4] rfl rfl (new_row _ _ _ (by simp)) (by simp [Value.oneCell']) (by unfold maxLen; omega) (by omega) (Nat.le_trans bA (later1 _ _).size) ?_; intro v9 w9 o9 g9 h9; obtain ⟨F9, B9, X9, R9, O9, ⟨u9, c9⟩, f9, k9, H9⟩ := HP2 _ _ o9 g9 h9; obtain ⟨a9, p9, hv9⟩ := row_form o9; rw [hv9] at B9 X9 R9 O9 ⊢; clear o9 g9 h9))
                        all_goals
                          clear HPU HP2
                          go_wp2_with fail
                          go_roundw
                          case rel => exact ⟨i + 1, _, _, _, _, _, by go_num, by omega, X9, B9, R9, O9, hby1, H9⟩
                          case measure => simp [intOf]; omega
                    · have i1 : ¬ (i : Int) < (ni : Int) := by omega
                      have i2 : decide ((i : Int) < (ni : Int)) = false := decide_eq_false i1
                      have HX : Hid _ := HD.out (by rw [show ni - i = 0 by omega]; rfl)
                      clear HD HE HR hB hR hty
                      as_aux_lemma =>
                        go_wp2_with fail
                        go_meet
                        case rel => exact HX.out
                case rest =>
                  obtain ⟨a5, m5, c5, F5, hm5, hx5, hoI, h5, o5, riy⟩ := hcut
                  obtain ⟨w5, hw5⟩ : ∃ w5, w5 = wc := ⟨_, rfl⟩
                  subst hw5
                  clear hri h4 hx4 b4y
                  have s45 : w4.heap.size ≤ w5.heap.size := o5.size
                  go_upto_block 8 with fail
                  go_cut [17, 18, 19, 20] from 122 to 209 (fun s17 s18 s19 s20 wx => ∃ a m c F, Hid (m = rm.1.length) ∧ Bxx wx X [.int .i64 zf, .int .i64 zp, .slice a5 m5 c5, .slice a m c] ∧ Own w5.heap.size wx (.list 2 (Ma.dats rm.1)) [.slice a m c] F ∧ Mc (C + 1) zs g off cap wx C rm.2 ∧ O2 C X w5 wx)
                  case first =>
                    obtain ⟨i0m, him, hzm0, hzm1, hzm2⟩ := info_parts Try.info63
                    go_wp2_with fail
                    go_loopw [17] (fun kk wr => ∃ (i : Nat) (l : List Ma) (ys : List Value) (G : List Nat) (t : RS) (v : Value), kk = .int .i64 (i : Int) ∧ i ≤ nm ∧ Bxx wr X [.int .i64 zf, .int .i64 zp, .slice a5 m5 c5, v] ∧ Bd w5.heap.size wr 63 2 v (Ma.dats l) ys G ∧ Mc (C + 1) zs g off cap wr C t ∧ O2 C X w5 wr ∧ Hid t.By ∧ Hid (l.length ≤ i ∧ rm = (l ++ (rep mMa (nm - i) t).1, (rep mMa (nm - i) t).2))) (fun kk _ => nm - (intOf kk).toNat)
                    case atStart => exact ⟨0, [], [], [], ri.2, _, rfl, Nat.zero_le _, hx5, Bd.nil _ _ _ _, h5, O2.refl _ _ _, riy, ⟨Nat.zero_le _, by rw [List.nil_append, Nat.sub_zero, hrm.out]⟩⟩
                    case round =>
                      clear hx5 h5 riy hrm hoI
                      obtain ⟨i, l, ys, G, t, v, rfl, hiN, hxR, hB, hR, oR, hty, HR⟩ := hrel
                      have hrow := hB.row
                      obtain ⟨m, hm⟩ := hidx (Ma.dats l).length
                      rw [← hm.out] at hrow
                      have hml : m = l.length := by rw [hm.out, Ma.dats_len]
                      have hmi : m ≤ i := by rw [hml]; exact HR.out.1
                      have HML : Hid (m = l.length) := hml
                      clear hml
                      obtain ⟨ra, rp, rfl⟩ := row_form hrow
                      have HE : Hid (rm = (l ++ (rep mMa (nm - i) t).1, (rep mMa (nm - i) t).2)) := HR.out.2
                      have HD : Hid (rep mMa (nm - i) t = ([], t) → ∃ a m c F, Hid (m = rm.1.length) ∧ Bxx wr X [.int .i64 zf, .int .i64 zp, .slice a5 m5 c5, .slice a m c] ∧ Own w5.heap.size wr (.list 2 (Ma.dats rm.1)) [.slice a m c] F ∧ Mc (C + 1) zs g off cap wr C rm.2 ∧ O2 C X w5 wr) := fun e2 => by
                        obtain ⟨G2, hG2⟩ := hB.done (by rw [Ma.dats_len, ← HML.out]; omega)
                        rw [HE.out, e2, List.append_nil]
                        exact ⟨ra, m, rp, G2, HML.out, hxR, hG2, hR, oR⟩
                      have hlC : C < wr.heap.size := Nat.lt_of_lt_of_le hR.lt hR.hB
                      by_cases hlt : i < nm
                      · have i1 : (i : Int) < (nm : Int) := by omega
                        rcases hR.c1 with ⟨hf, cA⟩ | ⟨hf, k2, hk2, hr2, cA⟩
                        · have HX : Hid _ := HD.out (rep_fin _ _ hf)
                          clear HD HE HR hB hR hty
                          as_aux_lemma =>
                            go_wp2_with fail
                            go_meet
                            case rel => exact HX.out
                        · skip
                          have hst : rep mMa (nm - i) t = ((mMa t).1 :: (rep mMa (nm - (i + 1)) (mMa t).2).1, (rep mMa (nm - (i + 1)) (mMa t).2).2) := by rw [show nm - i = (nm - (i + 1)) + 1 by omega, rep, if_neg (by rw [hf]; simp)]
                          obtain ⟨p1, hp1⟩ := hidx (mNum 6000 t)
                          obtain ⟨p2, hp2⟩ := hidx (mNum 1000 p1.2)
                          have y1 : p1.2.By := by rw [hp1.out]; exact mNum_by hty.out
                          have p2y : Hid p2.2.By := by show p2.2.By; rw [hp2.out]; exact mNum_by y1
                          have q2 := mNum_nn (most := 1000) y1 (by decide)
                          rw [← hp2.out] at q2
                          obtain ⟨ns, hns⟩ := Int.eq_ofNat_of_zero_le q2.1
                          have hns2 : ns ≤ 1000 := by omega
                          obtain ⟨rl, hrl⟩ := hidx (rep (mNum 1000) ns p2.2)
                          obtain ⟨pc, hpc⟩ := hidx p1.1
                          have HMA : Hid (mMa t = (.mk pc rl.1, rl.2)) := by
                            show _ = _
                            have e1 : mMa1 t = p2 := by unfold mMa1; rw [← hp1.out, hp2.out]
                            unfold mMa
                            rw [e1, hns, Int.toNat_natCast, ← hrl.out, ← hp1.out, hpc.out]
                          have hby1 : Hid (mMa t).2.By := mMa_mp.by8 t hty.out
                          clear q2 y1
                          have j0 : (0 : Int) ≤ (k2 : Int) := by omega
                          go_wp2_with fail
                          refine (HLN _ _ hR 6000 (by decide) (by decide)).mono ?_
                          rintro e w6 ⟨rfl, h6, o6⟩
                          rw [← hp1.out] at h6 ⊢
                          rw [← hpc.out]
                          obtain ⟨Y, hY⟩ := hidx w6.heap.size
                          obtain ⟨wy, hwy⟩ := hidx (w6.alloc (.cells #[.int .i64 pc, .slice none 0 0] 63))
                          have ly : Later w6 wy := by rw [hwy.out]; exact later1 _ _
                          have hyy : Bxx wy Y [.int .i64 pc, .slice none 0 0] := by rw [hwy.out, hY.out]; exact Bxx.new _ _ _
                          have h6y := h6.later ly
                          have hYwr : wr.heap.size ≤ Y := by rw [hY.out]; exact o6.size
                          have hYC : Y ≠ C := by omega
                          go_wp2_with fail
                          rw [← hwy.out, ← hY.out]
                          refine (HLN _ _ h6y 1000 (by decide) (by decide)).mono ?_
                          rintro e w7 ⟨rfl, h7, o7⟩
                          rw [← hp2.out] at h7 ⊢
                          rw [hns]
                          have ow7 : OnlyK C wr w7 := (o6.trans (OnlyK.of_later ly)).trans o7
                          have hy7 : Bxx w7 Y [.int .i64 pc, .slice none 0 0] := hyy.only o7 hYC
                          have hY7 : Y < w7.heap.size := hy7.lt
                          have hC7 : C < w7.heap.size := by omega
                          have hC1Y : C + 1 ≤ Y := by omega
                          have hXY : X < Y := by have := oR.size; omega
                          clear h6 h6y hyy hp1 hp2
                          go_upto_block 10 with fail
                          go_cut [20] from 162 to 203 (fun s20 wx => ∃ a m c F, Hid (m = rl.1.length) ∧ Bxx wx Y [.int .i64 pc, .slice a m c] ∧ Own w7.heap.size wx (.list 1 (In.dats rl.1)) [.slice a m c] F ∧ Mc (C + 1) zs g off cap wx C rl.2 ∧ O2 C Y w7 wx ∧ Hid rl.2.By)
                          case first =>
                            obtain ⟨i0, hi, hz0, hz1, hz2⟩ := info_parts Try.info3
                            go_wp2_with fail
                            go_loopw [20] (fun kk wr => ∃ (i : Nat) (l : List In) (ys : List Value) (G : List Nat) (t : RS) (v : Value), kk = .int .i64 (i : Int) ∧ i ≤ ns ∧ Bxx wr Y [.int .i64 pc, v] ∧ Bd w7.heap.size wr 3 1 v (In.dats l) ys G ∧ Mc (C + 1) zs g off cap wr C t ∧ O2 C Y w7 wr ∧ Hid t.By ∧ Hid (l.length ≤ i ∧ rl = (l ++ (rep (mNum 1000) (ns - i) t).1, (rep (mNum 1000) (ns - i) t).2))) (fun kk _ => ns - (intOf kk).toNat)
                            case atStart => exact ⟨0, [], [], [], p2.2, _, rfl, Nat.zero_le _, hy7, Bd.nil _ _ _ _, h7, O2.refl _ _ _, p2y, ⟨Nat.zero_le _, by rw [List.nil_append, Nat.sub_zero, hrl.out]⟩⟩
                            case round =>
                              clear h7 hy7 p2y hrl
                              obtain ⟨i, l, ys, G, t, v, rfl, hiN, hxR, hB, hR, oR, hty, HR⟩ := hrel
                              have hrow := hB.row
                              obtain ⟨m, hm⟩ := hidx (In.dats l).length
                              rw [← hm.out] at hrow
                              have hml : m = l.length := by rw [hm.out, In.dats_len]
                              have hmi : m ≤ i := by rw [hml]; exact HR.out.1
                              have HML : Hid (m = l.length) := hml
                              clear hml
                              obtain ⟨ra, rp, rfl⟩ := row_form hrow
                              have HE : Hid (rl = (l ++ (rep (mNum 1000) (ns - i) t).1, (rep (mNum 1000) (ns - i) t).2)) := HR.out.2
                              have HD : Hid (rep (mNum 1000) (ns - i) t = ([], t) → ∃ a m c F, Hid (m = rl.1.length) ∧ Bxx wr Y [.int .i64 pc, .slice a m c] ∧ Own w7.heap.size wr (.list 1 (In.dats rl.1)) [.slice a m c] F ∧ Mc (C + 1) zs g off cap wr C rl.2 ∧ O2 C Y w7 wr ∧ Hid rl.2.By) := fun e2 => by
                                obtain ⟨G2, hG2⟩ := hB.done (by rw [In.dats_len, ← HML.out]; omega)
                                rw [HE.out, e2, List.append_nil]
                                exact ⟨ra, m, rp, G2, HML.out, hxR, hG2, hR, oR, hty.out⟩
                              have hlC : C < wr.heap.size := Nat.lt_of_lt_of_le hR.lt hR.hB
                              by_cases hlt : i < ns
                              · have i1 : (i : Int) < (ns : Int) := by omega
                                rcases hR.c1 with ⟨hf, c1⟩ | ⟨hf, k2, hk2, hr2, c1⟩
                                · have HX : Hid _ := HD.out (rep_fin _ _ hf)
                                  clear HD HE HR hB hR hty
                                  as_aux_lemma =>
                                    go_wp2_with fail
                                    go_meet
                                    case rel => exact HX.out
                                · have j0 : (0 : Int) ≤ (k2 : Int) := by omega
                                  have hst : rep (mNum 1000) (ns - i) t = (((mNum 1000) t).1 :: (rep (mNum 1000) (ns - (i + 1)) ((mNum 1000) t).2).1, (rep (mNum 1000) (ns - (i + 1)) ((mNum 1000) t).2).2) := by rw [show ns - i = (ns - (i + 1)) + 1 by omega, rep, if_neg (by rw [hf]; simp)]
                                  have hRD := hR.later (Later.drew wr)
                                  have hxD := hxR.later (Later.drew wr)
                                  have hby1 : Hid ((mNum 1000) t).2.By := mNum_by hty.out
                                  have x2 := (hxR.cell 1 _ rfl).1
                                  have xD := (hxD.cell 1 _ rfl).1
                                  have xl := hxR.lt
                                  have HPU : Hid (∀ w5, OnlyK C wr.drew w5 → Mc (C + 1) zs g off cap w5 C ((mNum 1000) t).2 → Own wr.heap.size w5 (Dat.int ((mNum 1000) t).1) [.int .i64 ((mNum 1000) t).1] [] → (w5.ownsRow w7.heap.size 3 1 (.slice ra m rp) m ys ∧ w7.heap.size ≤ w5.heap.size ∧ w5.cell? ⟨Y, 1, none⟩ = some (.slice ra m rp) ∧ Y < w5.heap.size) ∧ ∀ v9 w9, w9.ownsRow w7.heap.size 3 1 v9 (m + 1) (ys ++ [.int .i64 ((mNum 1000) t).1]) → (w5.alloc (.cells #[.int .i64 ((mNum 1000) t).1] 3)).grownBy w9 (Value.slice ra m rp).ownBlock → (v9.ownBlock = (Value.slice ra m rp).ownBlock ∨ v9.ownBlock = some (w5.alloc (.cells #[.int .i64 ((mNum 1000) t).1] 3)).heap.size) → ∃ F9, Bd w7.heap.size (w9.setCell ⟨Y, 1, none⟩ v9) 3 1 v9 (In.dats (l ++ [((mNum 1000) t).1])) (ys ++ [.int .i64 ((mNum 1000) t).1]) F9 ∧ Bxx (w9.setCell ⟨Y, 1, none⟩ v9) Y [.int .i64 pc, v9] ∧ Mc (C + 1) zs g off cap (w9.setCell ⟨Y, 1, none⟩ v9) C ((mNum 1000) t).2 ∧ O2 C Y w7 (w9.setCell ⟨Y, 1, none⟩ v9) ∧ (∃ u, w9.cell? ⟨Y, 1, none⟩ = some u) ∧ w9.frozen? ⟨Y, 1, none⟩ = false ∧ Y < w9.heap.size ∧ Hid ((l ++ [((mNum 1000) t).1]).length ≤ i + 1 ∧ rl = (l ++ [((mNum 1000) t).1] ++ (rep (mNum 1000) (ns - (i + 1)) ((mNum 1000) t).2).1, (rep (mNum 1000) (ns - (i + 1)) ((mNum 1000) t).2).2))) := fun w5 o5 h5 hO5 => by
                                    as_aux_lemma =>
                                      have oW : O2 C Y w7 w5 := (oR.trans (O2.of_later (Later.drew _))).trans (O2.of_only o5)
                                      have hk5 : Kept w7.heap.size wr w5 := ⟨(Nat.le_trans (Later.drew wr).size o5.size), fun b hb hl => by rw [o5.block b hl (by omega)]; exact (Later.drew wr).block b hl⟩
                                      have hx5 : Bxx w5 Y [.int .i64 pc, .slice ra m rp] := hxD.only o5 (by omega)
                                      refine ⟨⟨row_kept hrow hk5, oW.size, (hx5.cell 1 _ rfl).1, hx5.lt⟩, fun v9 w9 o9 g9 h9 => ?_⟩
                                      rw [In.dats_app]
                                      have hvb : ∀ g, (Value.slice ra m rp).ownBlock = some g → w7.heap.size ≤ g := fun g hg => (hrow.lt g hg).1
                                      have hB9 := Bd.push (G := []) hB rfl hO5 hk5 ((later1 w5 _).kept _) oR.size (by rw [In.dats_len, ← HML.out]; exact o9) g9 h9
                                      have s9 : w5.heap.size ≤ w9.heap.size := Nat.le_trans (later1 w5 _).size g9.size
                                      have hbe : Below w7.heap.size w5 w9 := Below.trans (Below.mono (later1 w5 (.cells #[.int .i64 ((mNum 1000) t).1] 3)) oW.size) ⟨g9.os, g9.tape, g9.output, g9.size, fun b hb => g9.block b (by have := (later1 w5 (.cells #[.int .i64 ((mNum 1000) t).1] 3)).size; have := oW.size; omega) (fun e => by have := hvb b e.symm; omega)⟩
                                      have hx9 : Bxx w9 Y [.int .i64 pc, .slice ra m rp] := hx5.kept s9 (hbe.block _ (by omega))
                                      have hR9 := h5.below (Below.mono hbe (by omega))
                                      refine ⟨_, hB9.kept ((Kept.refl _ _).setAt (by omega) 1 _), hx9.set 1 v9 (by simp), hR9.setNew (by omega) 1 _, ((oW.trans (O2.of_later (later1 _ _))).grown g9 hvb).setX 1 _, ⟨_, (hx9.cell 1 _ rfl).1⟩, (hx9.cell 1 _ rfl).2, hx9.lt, ⟨by rw [List.length_append, List.length_singleton, ← HML.out]; omega, by rw [HE.out, hst, List.append_assoc]; rfl⟩⟩
                                  have HCALL := HLN _ _ hRD 1000 (by decide) (by decide)
                                  clear HD HE HR hB hR hst
                                  go_wp2_with fail
                                  go_region_law (first | (go_simp; go_at_call 24; refine HCALL.mono ?_; rintro e w5 ⟨rfl, h5, o5⟩; obtain ⟨⟨hrA, bA, y2, yl⟩, HP2⟩ := HPU.out w5 o5 h5 (Own.mk' (by rw [OwnD]; exact ⟨rfl, rfl⟩) (Fr.nil _ _))) | (refine step_append_at rfl _ _ 23 rfl w7.heap.size 3 i0 (.int .i64 0) 1 8 Try.underlying23 hi hz0 hz1 hz2 rfl (by decide) _ _ _ rfl (hrA.alloc _) _ 1 1 [.int .i64 ((mNum 1000) t).1] rfl rfl (new_row _ _ _ (by simp)) (by simp [Value.oneCell']) (by unfold maxLen; omega) (by omega) (Nat.le_trans bA (later1 _ _).size) ?_; intro v9 w9 o9 g9 h9; obtain ⟨F9, B9, X9, R9, O9, ⟨u9, c9⟩, f9, k9, H9⟩ := HP2 _ _ o9 g9 h9; obtain ⟨a9, p9, hv9⟩ := row_form o9; rw [hv9] at B9 X9 R9 O9 ⊢; clear o9 g9 h9))
                                  all_goals
                                    clear HPU HP2
                                    go_wp2_with fail
                                    go_roundw
                                    case rel => exact ⟨i + 1, _, _, _, _, _, by go_num, by omega, X9, B9, R9, O9, hby1, H9⟩
                                    case measure => simp [intOf]; omega
                              · have i1 : ¬ (i : Int) < (ns : Int) := by omega
                                have i2 : decide ((i : Int) < (ns : Int)) = false := decide_eq_false i1
                                have HX : Hid _ := HD.out (by rw [show ns - i = 0 by omega]; rfl)
                                clear HD HE HR hB hR hty
                                as_aux_lemma =>
                                  go_wp2_with fail
                                  go_meet
                                  case rel => exact HX.out
                          case rest =>
                            obtain ⟨a8, m8, c8, F8, hm8, hy8, hoL, h8, o8, rly⟩ := hcut
                            have o18 : OnlyK C wr wc := O2.old ow7 o8 hYwr
                            have hxW := hxR.only o18 (by omega)
                            have hO8 : Own wr.heap.size wc (Ma.dat (mMa t).1) [.int .i64 pc, .slice a8 m8 c8] F8 := by rw [HMA.out]; exact (Own.mk' (Ma.own (x := .mk pc rl.1) hoL.own) hoL.fr).mono ow7.size
                            have hk1 : Kept w5.heap.size wr wc := ⟨o18.size, fun b hb hl => o18.block b hl (by omega)⟩
                            have h8' : Mc (C + 1) zs g off cap wc C (mMa t).2 := by rw [HMA.out]; exact h8
                            have oW : O2 C X w5 wc := oR.trans (O2.of_only o18)
                            have HPU : Hid (∀ v9 w9, w9.ownsRow w5.heap.size 63 2 v9 (m + 1) (ys ++ [.int .i64 pc, .slice a8 m8 c8]) → (wc.alloc (.cells #[.int .i64 pc, .slice a8 m8 c8] 63)).grownBy w9 (Value.slice ra m rp).ownBlock → (v9.ownBlock = (Value.slice ra m rp).ownBlock ∨ v9.ownBlock = some (wc.alloc (.cells #[.int .i64 pc, .slice a8 m8 c8] 63)).heap.size) → ∃ F9, Bd w5.heap.size (w9.setCell ⟨X, 3, none⟩ v9) 63 2 v9 (Ma.dats (l ++ [(mMa t).1])) (ys ++ [.int .i64 pc, .slice a8 m8 c8]) F9 ∧ Bxx (w9.setCell ⟨X, 3, none⟩ v9) X [.int .i64 zf, .int .i64 zp, .slice a5 m5 c5, v9] ∧ Mc (C + 1) zs g off cap (w9.setCell ⟨X, 3, none⟩ v9) C (mMa t).2 ∧ O2 C X w5 (w9.setCell ⟨X, 3, none⟩ v9) ∧ (∃ u, w9.cell? ⟨X, 3, none⟩ = some u) ∧ w9.frozen? ⟨X, 3, none⟩ = false ∧ X < w9.heap.size ∧ Hid ((l ++ [(mMa t).1]).length ≤ i + 1 ∧ rm = (l ++ [(mMa t).1] ++ (rep mMa (nm - (i + 1)) (mMa t).2).1, (rep mMa (nm - (i + 1)) (mMa t).2).2))) := fun v9 w9 o9 g9 h9 => by
                              as_aux_lemma =>
                                rw [Ma.dats_app]
                                have hvb : ∀ g, (Value.slice ra m rp).ownBlock = some g → w5.heap.size ≤ g := fun g hg => (hrow.lt g hg).1
                                have hB9 := Bd.push hB rfl hO8 hk1 ((later1 wc _).kept _) oR.size (by rw [Ma.dats_len, ← HML.out]; exact o9) g9 h9
                                have s9 : wc.heap.size ≤ w9.heap.size := Nat.le_trans (later1 wc _).size g9.size
                                have hbe : Below w5.heap.size wc w9 := Below.trans (Below.mono (later1 wc (.cells #[.int .i64 pc, .slice a8 m8 c8] 63)) oW.size) ⟨g9.os, g9.tape, g9.output, g9.size, fun b hb => g9.block b (by have := (later1 wc (.cells #[.int .i64 pc, .slice a8 m8 c8] 63)).size; have := oW.size; omega) (fun e => by have := hvb b e.symm; omega)⟩
                                have hx9 : Bxx w9 X [.int .i64 zf, .int .i64 zp, .slice a5 m5 c5, .slice ra m rp] := hxW.kept s9 (hbe.block _ (by omega))
                                have hR9 := h8'.below (Below.mono hbe (by omega))
                                refine ⟨_, hB9.kept ((Kept.refl _ _).setAt (by omega) 3 _), hx9.set 3 v9 (by simp), hR9.setNew (by omega) 3 _, ((oW.trans (O2.of_later (later1 _ _))).grown g9 hvb).setX 3 _, ⟨_, (hx9.cell 3 _ rfl).1⟩, (hx9.cell 3 _ rfl).2, hx9.lt, ⟨by rw [List.length_append, List.length_singleton, ← HML.out]; omega, by rw [HE.out, hst, List.append_assoc]; rfl⟩⟩
                            have hrA := row_kept hrow hk1
                            have bA : w5.heap.size ≤ wc.heap.size := oW.size
                            have x3 := (hxW.cell 3 _ rfl).1
                            have xl := hxW.lt
                            have e0 := (hy8.cell 0 _ rfl).1
                            have e1 := (hy8.cell 1 _ rfl).1
                            have el := hy8.lt
                            clear HD HE HR hB hR hxR hst hO8 hoL h8 h8' HMA hk1 hxW hm8 hty hy8
                            go_wp2_with (at_builtin; refine wpList_append_own_at _ rfl _ _ 56 rfl w5.heap.size 63 i0m (.agg #[.int .i64 0, .slice none 0 0]) 2 32 Try.underlying56 him hzm0 hzm1 hzm2 rfl (by decide) _ _ _ rfl (hrA.alloc _) _ 1 1 [.int .i64 pc, .slice a8 m8 c8] rfl rfl (new_row _ _ _ (by simp)) (by simp [Value.oneCell']) (by unfold maxLen; omega) (by omega) (Nat.le_trans bA (later1 _ _).size) ?_; intro v9 w9 o9 g9 _ h9; obtain ⟨F9, B9, X9, R9, O9, ⟨u9, c9⟩, f9, k9, H9⟩ := HPU.out _ _ o9 g9 h9; obtain ⟨a9, p9, hv9⟩ := row_form o9; rw [hv9] at B9 X9 R9 O9 ⊢; clear o9 g9 h9 HPU)
                            go_roundw
                            case rel => exact ⟨i + 1, _, _, _, _, _, by go_num, by omega, X9, B9, R9, O9, hby1, H9⟩
                            case measure => simp [intOf]; omega
                      · have i1 : ¬ (i : Int) < (nm : Int) := by omega
                        have i2 : decide ((i : Int) < (nm : Int)) = false := decide_eq_false i1
                        have HX : Hid _ := HD.out (by rw [show nm - i = 0 by omega]; rfl)
                        clear HD HE HR hB hR hty
                        as_aux_lemma =>
                          go_wp2_with fail
                          go_meet
                          case rel => exact HX.out
                  case rest =>
                    obtain ⟨a6, m6, c6, F6, hm6, hx6, hoM, h6, o6⟩ := hcut
                    have o16 : OnlyK C wr wc := O2.old ow4 (o5.trans o6) hXwr
                    have hmW := hmR.only o16 (by omega)
                    have hrW := hrR.only o16 (by omega)
                    have lW : Later w wc := Below.trans lR (o16.below (by omega) (by have := lR.size; omega))
                    have hO6 : Own wr.heap.size wc (Cd.dat (mCd t).1) [.int .i64 zf, .int .i64 zp, .slice a5 m5 c5, .slice a6 m6 c6] (F5 ++ F6) := by
                      rw [HCD.out]
                      exact (Own.mk' (Cd.own (x := .mk zf zp ri.1 rm.1) (hoI.kept (o6.kept (by omega) (by omega))) hoM.own) (Fr.app hoI.fr hoM.fr o5.size o6.size)).mono ow4.size
                    have hk1 : Kept we.heap.size wr wc := ⟨o16.size, fun b hb hl => o16.block b hl (by omega)⟩
                    have kW : Kept wd.heap.size we wc := ⟨Nat.le_trans kR.size o16.size, fun b hb hl => by rw [o16.block b (Nat.lt_of_lt_of_le hl kR.size) (by omega)]; exact kR.block b hb hl⟩
                    have hby2 : Hid (mCd t).2.By := mCd_mp.by8 t hty.out
                    have h6' : Mc (C + 1) zs g off cap wc C (mCd t).2 := by rw [HCD.out]; exact h6
                    have sR : we.heap.size ≤ wr.heap.size := kR.size
                    have HPU : Hid (∀ v9 w9, w9.ownsRow we.heap.size 58 4 v9 (m + 1) (xs ++ [.int .i64 zf, .int .i64 zp, .slice a5 m5 c5, .slice a6 m6 c6]) → (wc.alloc (.cells #[.int .i64 zf, .int .i64 zp, .slice a5 m5 c5, .slice a6 m6 c6] 58)).grownBy w9 (Value.slice ra m rp).ownBlock → (v9.ownBlock = (Value.slice ra m rp).ownBlock ∨ v9.ownBlock = some (wc.alloc (.cells #[.int .i64 zf, .int .i64 zp, .slice a5 m5 c5, .slice a6 m6 c6] 58)).heap.size) → ∃ F9, Bd we.heap.size (w9.setCell ⟨M, 1, none⟩ v9) 58 4 v9 (Cd.dats (l ++ [(mCd t).1])) (xs ++ [.int .i64 zf, .int .i64 zp, .slice a5 m5 c5, .slice a6 m6 c6]) F9 ∧ Bxx (w9.setCell ⟨M, 1, none⟩ v9) M [.slice a1 m1 c1, v9, .int .i64 zm] ∧ Mc (C + 1) zs g off cap (w9.setCell ⟨M, 1, none⟩ v9) C (mCd t).2 ∧ Bxx (w9.setCell ⟨M, 1, none⟩ v9) w.heap.size [.slice none 0 0, .slice none 0 0, .int .i64 0] ∧ Later w (w9.setCell ⟨M, 1, none⟩ v9) ∧ Kept wd.heap.size we (w9.setCell ⟨M, 1, none⟩ v9) ∧ (∃ u, w9.cell? ⟨M, 1, none⟩ = some u) ∧ w9.frozen? ⟨M, 1, none⟩ = false ∧ M < w9.heap.size ∧ Hid ((l ++ [(mCd t).1]).length ≤ j + 1 ∧ rc = (l ++ [(mCd t).1] ++ (rep mCd (n2 - (j + 1)) (mCd t).2).1, (rep mCd (n2 - (j + 1)) (mCd t).2).2))) := fun v9 w9 o9 g9 h9 => by
                      as_aux_lemma =>
                        rw [Cd.dats_app]
                        have hvb : ∀ g, (Value.slice ra m rp).ownBlock = some g → we.heap.size ≤ g := fun g hg => (hrow.lt g hg).1
                        have hB9 := Bd.push hB rfl hO6 hk1 ((later1 wc _).kept _) sR (by rw [Cd.dats_len, ← HML.out]; exact o9) g9 h9
                        have s9 : wc.heap.size ≤ w9.heap.size := Nat.le_trans (later1 wc _).size g9.size
                        have hbe : Below we.heap.size wc w9 := Below.trans (Below.mono (later1 wc (.cells #[.int .i64 zf, .int .i64 zp, .slice a5 m5 c5, .slice a6 m6 c6] 58)) (Nat.le_trans sR o16.size)) ⟨g9.os, g9.tape, g9.output, g9.size, fun b hb => g9.block b (by have := (later1 wc (.cells #[.int .i64 zf, .int .i64 zp, .slice a5 m5 c5, .slice a6 m6 c6] 58)).size; have := o16.size; omega) (fun e => by have := hvb b e.symm; omega)⟩
                        have hm9 : Bxx w9 M [.slice a1 m1 c1, .slice ra m rp, .int .i64 zm] := hmW.kept s9 (hbe.block M (by omega))
                        have hr9 : Bxx w9 w.heap.size [.slice none 0 0, .slice none 0 0, .int .i64 0] := hrW.kept s9 (hbe.block _ (by omega))
                        have l9 : Later w w9 := Below.trans lW (Below.mono hbe (by omega))
                        have hR9 := h6'.below (Below.mono hbe (by omega))
                        have k9 : Kept wd.heap.size we w9 := ⟨Nat.le_trans kW.size s9, fun b hb hl => by rw [hbe.block b hl]; exact kW.block b hb hl⟩
                        refine ⟨_, hB9.kept ((Kept.refl _ _).setAt (by omega) 1 _), hm9.set 1 v9 (by simp), hR9.setNew hC1 1 _, hr9.other (by omega) _, l9.setAt (by omega) 1 _, k9.setAt hMd 1 _, ⟨_, (hm9.cell 1 _ rfl).1⟩, (hm9.cell 1 _ rfl).2, hm9.lt, ⟨by rw [List.length_append, List.length_singleton, ← HML.out]; omega, by rw [HE.out, hst, List.append_assoc]; rfl⟩⟩
                    have hrA := row_kept hrow hk1
                    have bA : we.heap.size ≤ wc.heap.size := Nat.le_trans sR o16.size
                    have x1 := (hmW.cell 1 _ rfl).1
                    have xl := hmW.lt
                    have e0 := (hx6.cell 0 _ rfl).1
                    have e1 := (hx6.cell 1 _ rfl).1
                    have e2 := (hx6.cell 2 _ rfl).1
                    have e3 := (hx6.cell 3 _ rfl).1
                    have el := hx6.lt
                    clear HD HE HR hB hR hmR hrR hst hO6 hoM hoI h6 h6' HCD hk1 hmW hrW lW hm6 hty hx6 kR kW hx5 h5
                    go_wp2_with (at_builtin; refine wpList_append_own_at _ rfl _ _ 30 rfl we.heap.size 58 i0c (.agg #[.int .i64 0, .int .i64 0, .slice none 0 0, .slice none 0 0]) 4 64 Try.underlying30 hic hzc0 hzc1 hzc2 rfl (by decide) _ _ _ rfl (hrA.alloc _) _ 1 1 [.int .i64 zf, .int .i64 zp, .slice a5 m5 c5, .slice a6 m6 c6] rfl rfl (new_row _ _ _ (by simp)) (by simp [Value.oneCell']) (by unfold maxLen; omega) (by omega) (Nat.le_trans bA (later1 _ _).size) ?_; intro v9 w9 o9 g9 _ h9; obtain ⟨F9, B9, M9, R9, Z9, L9, S9, ⟨u9, c9⟩, f9, k9, H9⟩ := HPU.out _ _ o9 g9 h9; obtain ⟨a9, p9, hv9⟩ := row_form o9; rw [hv9] at B9 M9 R9 Z9 L9 S9 ⊢; clear o9 g9 h9 HPU)
                    go_roundw
                    case rel => exact ⟨j + 1, _, _, _, _, _, by go_num, by omega, M9, B9, R9, Z9, L9, S9, hby2, H9⟩
                    case measure => simp [intOf]; omega
            · have i1 : ¬ (j : Int) < (n2 : Int) := by omega
              have i2 : decide ((j : Int) < (n2 : Int)) = false := decide_eq_false i1
              have HX : Hid _ := HD.out (by rw [show n2 - j = 0 by omega]; rfl)
              clear HD HE HR hB hR hty
              as_aux_lemma =>
                go_wp2_with fail
                go_meet
                case rel => exact HX.out
        case rest =>
          obtain ⟨a2, m2, c2, F2, hm2, hmY, hoC, hcY, hrY, lY, kY⟩ := hcut
          obtain ⟨x, hx⟩ := hidx (Im.mk rs.1 rc.1 zm)
          have hxI : mIm s0 = (x, rc.2) := by rw [hIM.out, hx.out, hzm.out]
          have hIR : irM zs = if rc.2.fin = false ∧ rc.2.rest = [] ∧ imB x = true then (x, true) else (zeroIm, false) := by rw [hir.out, hxI]
          have HZ0 : Hid (¬ (rc.2.fin = false ∧ rc.2.rest = [] ∧ imB x = true) → ∀ w', Later w w' → Q (.returned (.tuple #[.agg #[.slice none 0 0, .slice none 0 0, .int .i64 0], .bool false])) w') := fun h w' l => by
            rw [← HQ.out, hIR, if_neg h]
            exact ⟨_, _, _, _, _, _, _, [], rfl, ⟨rfl, rfl, rfl⟩, zero_own _ _, l⟩
          have hO : Own wd.heap.size wc (Im.dat x) [.slice a1 m1 c1, .slice a2 m2 c2, .int .i64 zm] (F1 ++ F2) := by
            rw [hx.out]
            exact Own.mk' (Im.own (x := .mk rs.1 rc.1 zm) (hoS.kept kY) hoC.own) (Fr.app hoS.fr hoC.fr sX kY.size)
          have HZ1 : Hid (rc.2.fin = false ∧ rc.2.rest = [] ∧ imB x = true → ∀ w' F, Own w.heap.size w' (Im.dat x) [.slice a1 m1 c1, .slice a2 m2 c2, .int .i64 zm] F → Later w w' → Q (.returned (.tuple #[.agg #[.slice a1 m1 c1, .slice a2 m2 c2, .int .i64 zm], .bool true])) w') := fun h w' F ho l => by
            rw [← HQ.out, hIR, if_pos h]
            exact ⟨_, _, _, _, _, _, _, F, rfl, ⟨by rw [hx.out]; rfl, by rw [hx.out]; exact hm1.out, by rw [hx.out]; exact hm2.out⟩, ho, l⟩
          have hok : ∀ c ∈ x.codes, ∀ y ∈ c.ins, y.Ok := by have := mIm_ok hs0y.out; rw [hxI] at this; exact this
          have hszx : rc.2.fin = false → x.sz ≤ 1048576 := fun hf => by
            have e := mIm_snd hs0y.out (by rw [hxI]; exact hf)
            rw [hxI] at e
            have e2 := congrArg List.length e
            rw [List.length_append, List.length_append] at e2
            have h1 := imsz_le x
            have h2 : s0.rest.length ≤ 200000 := hs0l.out
            simp only [List.length_cons, List.length_nil] at e2
            omega
          have hzmx : zm = x.main := by rw [hx.out]; rfl
          obtain ⟨u0, u1, eu, r0, r1⟩ := Im.view hO.rd
          simp only [List.cons.injEq, Value.int.injEq, true_and, and_true] at eu
          obtain ⟨eu0, eu1, eu2⟩ := eu
          clear eu2
          rw [← eu0] at r0
          rw [← eu1] at r1
          clear eu0 eu1
          have HOK := fun (hf : rc.2.fin = false) (bb : Bool) (h : imB x = bb) => simok_b x _ _ wc r0 r1 hok (hszx hf) h
          rw [← hzmx] at HOK
          have hHz : Hid (zm = x.main) := hzmx
          have b0 := (hrY.cell 0 _ rfl).1
          have bf0 := (hrY.cell 0 _ rfl).2
          have b1 := (hrY.cell 1 _ rfl).1
          have bf1 := (hrY.cell 1 _ rfl).2
          have b2 := (hrY.cell 2 _ rfl).1
          have bf2 := (hrY.cell 2 _ rfl).2
          have bl := hrY.lt
          have m0 := (hmY.cell 0 _ rfl).1
          have mf0 := (hmY.cell 0 _ rfl).2
          have m1 := (hmY.cell 1 _ rfl).1
          have mf1 := (hmY.cell 1 _ rfl).2
          have m2 := (hmY.cell 2 _ rfl).1
          have mf2 := (hmY.cell 2 _ rfl).2
          have ml := hmY.lt
          have hlC : C < wc.heap.size := Nat.lt_of_lt_of_le hcY.lt hcY.hB
          have c0 := hcY.c0
          clear hzmx r0 r1 hszx hok hIR hxI hIM hir hrc hoS hoC hm1 hm2 hx
          rcases hcY.c1 with ⟨hf, cA⟩ | ⟨hf, k, hk, hr, cA⟩
          · have hne : ((-1 : Int) != (zs.length : Int)) = true := by rw [bne_iff_ne]; omega
            have HX : Hid _ := HZ0.out (by rw [hf]; simp)
            clear HZ0 HZ1 HOK HLN hO
            go_wp2_with fail
            refine bodyPost_ret (v := .tuple #[.agg #[.slice none 0 0, .slice none 0 0, .int .i64 0], .bool false]) (by simp [results, Try.results8, go_sem, b0, b1, b2]) rfl (HX.out _ ?_)
            repeat (first | with_reducible exact lY | refine Later.setAt ?_ (by omega) _ _)
          · by_cases hkN : k = zs.length
            · have hne : ((k : Int) != (zs.length : Int)) = false := by rw [hkN]; simp
              cases hb : imB x with
              | false =>
                have HC := HOK hf false hb
                clear HOK HLN hbl hbz hbc hbm
                go_wp2_with fail
                refine HC.mono ?_
                rintro e w9 ⟨rfl, l9⟩
                clear b0 b1 b2 bf0 bf1 bf2 bl
                have hr9 := hrY.later l9
                have lY := lY.trans l9
                have b0 := (hr9.cell 0 _ rfl).1
                have bf0 := (hr9.cell 0 _ rfl).2
                have b1 := (hr9.cell 1 _ rfl).1
                have bf1 := (hr9.cell 1 _ rfl).2
                have b2 := (hr9.cell 2 _ rfl).1
                have bf2 := (hr9.cell 2 _ rfl).2
                have bl := hr9.lt
                have HX : Hid _ := HZ0.out (by rw [hb]; simp)
                clear HZ0 HZ1 hO
                go_wp2_with fail
                refine bodyPost_ret (v := .tuple #[.agg #[.slice none 0 0, .slice none 0 0, .int .i64 0], .bool false]) (by simp [results, Try.results8, go_sem, b0, b1, b2]) rfl (HX.out _ ?_)
                repeat (first | with_reducible exact lY | refine Later.setAt ?_ (by omega) _ _)
              | true =>
                have HC := HOK hf true hb
                clear HOK HLN hbl hbz hbc hbm
                have HX : Hid _ := HZ1.out ⟨hf, by rw [hr, List.drop_eq_nil_of_le (by omega)], hb⟩
                go_wp2_with fail
                refine HC.mono ?_
                rintro e w9 ⟨rfl, l9⟩
                clear b0 b1 b2 bf0 bf1 bf2 bl m0 m1 m2 mf0 mf1 mf2 ml
                have hr9 := hrY.later l9
                have hm9 := hmY.later l9
                have hO9 := hO.later l9
                have lY := lY.trans l9
                have b0 := (hr9.cell 0 _ rfl).1
                have bf0 := (hr9.cell 0 _ rfl).2
                have b1 := (hr9.cell 1 _ rfl).1
                have bf1 := (hr9.cell 1 _ rfl).2
                have b2 := (hr9.cell 2 _ rfl).1
                have bf2 := (hr9.cell 2 _ rfl).2
                have bl := hr9.lt
                have n0 := (hm9.cell 0 _ rfl).1
                have nf0 := (hm9.cell 0 _ rfl).2
                have n1 := (hm9.cell 1 _ rfl).1
                have nf1 := (hm9.cell 1 _ rfl).2
                have n2 := (hm9.cell 2 _ rfl).1
                have nf2 := (hm9.cell 2 _ rfl).2
                have nl := hm9.lt
                have hwd0 : w.heap.size < wd.heap.size := by omega
                clear HZ0 HZ1
                go_wp2_with fail
                refine bodyPost_ret (v := .tuple #[.agg #[.slice a1 m1 c1, .slice a2 m2 c2, .int .i64 zm], .bool true]) (by simp [results, Try.results8, go_sem, b0, b1, b2]) rfl (HX.out _ (F1 ++ F2) ?_ ?_)
                · exact (((hO9.set1 hwd0 0 _).set1 hwd0 1 _).set1 hwd0 2 _).mono (by omega)
                · repeat (first | with_reducible exact lY | refine Later.setAt ?_ (by omega) _ _)
            · have hne : ((k : Int) != (zs.length : Int)) = true := by rw [bne_iff_ne]; omega
              have HX : Hid _ := HZ0.out (by intro q; have := congrArg List.length q.2.1; rw [hr, List.length_drop] at this; simp at this; omega)
              clear HZ0 HZ1 HOK HLN hO
              go_wp2_with fail
              refine bodyPost_ret (v := .tuple #[.agg #[.slice none 0 0, .slice none 0 0, .int .i64 0], .bool false]) (by simp [results, Try.results8, go_sem, b0, b1, b2]) rfl (HX.out _ ?_)
              repeat (first | with_reducible exact lY | refine Later.setAt ?_ (by omega) _ _)
end Go.Proofs.Ytlfkjjnhlkaipaa
