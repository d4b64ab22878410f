/- A code as bytes by the program: appendCode. -/
import Derived.Test.YtlfkjjnhlkaipaaH1
import Derived.Deep.Cut
import Derived.Deep.CutRange
namespace Go.Proofs.Ytlfkjjnhlkaipaa
open Go.RowKit Go.Lib

theorem ints_rd {A : World} {g : Nat} (ns : List Int) (h : Bx A g (ns.map (Value.int .i64))) (hl : ns.length ≤ 1000) : RdL A 1 (.slice (some ⟨g, 0, none⟩) ns.length ns.length) (In.dats ns) := by
  refine ⟨_, _, by rw [In.dats_len], by rw [In.dats_len]; unfold maxLen; omega, fun j hj => ?_⟩
  rw [In.dats_len] at hj
  refine ⟨g, 0, [.int .i64 ns[j]], rfl, h.lt, rfl, fun m u hm => ?_, ?_⟩
  · match m, hm with
    | 0, hm =>
      have e : Value.int .i64 ns[j] = u := by simpa using hm
      rw [← e, Nat.add_zero, Nat.mul_one, Nat.zero_add]
      exact h.cell j _ (by rw [List.getElem?_map, List.getElem?_eq_getElem hj]; rfl)
    | m + 1, hm => simp at hm
  · rw [show (In.dats ns)[j]'(by rw [In.dats_len]; exact hj) = .int ns[j] from List.getElem_map ..]
    rw [RdD]
set_option maxRecDepth 20000 in
set_option maxHeartbeats 4000000 in
theorem code_any (A W w : World) (v iv mv : Value) (zs : List Int) (C : Cd) (h : Bf A W w v zs) (h0 : ∀ w', Later W w' → RdL w' 5 iv (Is.dats C.ins)) (h1 : ∀ w', Later W w' → RdL w' 2 mv (Ma.dats C.maps)) (hR : C.Rg) (hb : zs.length + cdSz C ≤ 100000000) :
    Calls Try.prog 56 #[v, .agg #[.int .i64 C.frame, .int .i64 C.params, iv, mv]] w (SayP A W (zs ++ cdL C)) := by
  obtain ⟨ai, ci, rfl, hli⟩ := Is.slice (h0 w h.lat)
  obtain ⟨am, cm, rfl, hlm⟩ := Ma.slice (h1 w h.lat)
  have HF : Hid (∀ v' w', Bf A W w' v' (zs ++ cdL C) → SayP A W (zs ++ cdL C) (.returned v') w') := fun v' w' h => ⟨v', rfl, h⟩
  have HIm : Hid (zs ++ cdL C = (zs ++ slotsL [C.frame, C.params, (C.ins.length : Int), (C.maps.length : Int)] ++ insL C.ins) ++ masL C.maps) := by unfold Hid cdL; simp only [slotsL, List.append_assoc, List.append_nil]
  have HLn : Hid (zs.length + 8 + (insL C.ins).length + (masL C.maps).length ≤ 100000000) := by
    unfold Hid
    have e := cdL_len C
    unfold cdL at e
    simp only [List.length_append, twoL_len] at e
    omega
  generalize hQ : SayP A W (zs ++ cdL C) = Q at *
  clear hQ hb
  have H0 : Hid (∀ w', Later W w' → RdL w' 5 (.slice ai C.ins.length ci) (Is.dats C.ins)) := h0
  have H1 : Hid (∀ w', Later W w' → RdL w' 2 (.slice am C.maps.length cm) (Ma.dats C.maps)) := h1
  obtain ⟨wc, hwc⟩ := hidq8 (w.alloc (.cells #[.int .i64 C.frame, .int .i64 C.params, .slice ai C.ins.length ci, .slice am C.maps.length cm] 58))
  obtain ⟨bc, hbc⟩ := hidq8 w.heap.size
  have bC : Bx wc bc [.int .i64 C.frame, .int .i64 C.params, .slice ai C.ins.length ci, .slice am C.maps.length cm] := by rw [hwc.out, hbc.out]; exact Bx.new _ _ _ (by decide)
  have hBc : Bf A W wc v zs := by rw [hwc.out]; exact h.alloc _
  have kwc : Hid (K8 A wc) := (show K8 A wc from hBc.k8)
  have hB := hBc.from
  have HXc : Hid (∀ w', K8 wc w' → w'.cell? ⟨bc, 0, none⟩ = some (.int .i64 C.frame) ∧ w'.cell? ⟨bc, 1, none⟩ = some (.int .i64 C.params) ∧ w'.cell? ⟨bc, 2, none⟩ = some (.slice ai C.ins.length ci) ∧ w'.cell? ⟨bc, 3, none⟩ = some (.slice am C.maps.length cm) ∧ bc < w'.heap.size) := fun w' q => ⟨(bC.k8 q).cell 0 _ rfl, (bC.k8 q).cell 1 _ rfl, (bC.k8 q).cell 2 _ rfl, (bC.k8 q).cell 3 _ rfl, (bC.k8 q).lt⟩
  obtain ⟨f0, f1, f2, f3, fl⟩ := HXc.out wc (K8.refl _)
  obtain ⟨av, cv0, hav⟩ := h.shape
  subst hav
  have hlow : Hid (∀ w', w' = wc.alloc (.cells #[.int .i64 C.frame, .int .i64 C.params, .int .i64 (C.ins.length : Int), .int .i64 (C.maps.length : Int)] 3) → Calls Try.prog 53 #[.slice av zs.length cv0, .slice (some ⟨wc.heap.size, 0, none⟩) 4 4] w' fun e w2 => ∃ v2, e = .returned v2 ∧ Bf wc W w2 v2 (zs ++ slotsL [C.frame, C.params, (C.ins.length : Int), (C.maps.length : Int)])) := fun w' e => by
    subst e
    have hn : ∀ n ∈ [C.frame, C.params, (C.ins.length : Int), (C.maps.length : Int)], W2 n := fun n hn => by
      simp only [List.mem_cons, List.not_mem_nil, or_false] at hn
      rcases hn with rfl | rfl | rfl | rfl
      · exact hR.fr
      · exact hR.pr
      · exact hR.il
      · exact hR.ml
    have bx := Bx.new wc #[.int .i64 C.frame, .int .i64 C.params, .int .i64 (C.ins.length : Int), .int .i64 (C.maps.length : Int)] 3 (by decide)
    refine (low16_any _ W _ _ _ zs [C.frame, C.params, (C.ins.length : Int), (C.maps.length : Int)] (hB.alloc _).from (fun w2 _ k => ints_rd [C.frame, C.params, (C.ins.length : Int), (C.maps.length : Int)] (bx.k8 k) (by simp)) hn (by have := HLn.out; simp; omega)).mono ?_
    rintro e w2 ⟨v2, rfl, b2⟩
    rw [lowL_two _ hn] at b2
    exact ⟨v2, rfl, b2.back (later1 _ _).k8⟩
  clear h h0 h1 hBc bC
  go_enter Try.func56, Try.ntmps56
  go_upto_region 1 with fail
  rw [← hwc.out, ← hbc.out]
  clear hwc hbc
  go_wp2_with fail
  refine (hlow.out _ rfl).mono ?_
  rintro e w2 ⟨v2, rfl, b2⟩
  obtain ⟨Y4, hY4⟩ := hidq8 (zs ++ slotsL [C.frame, C.params, (C.ins.length : Int), (C.maps.length : Int)])
  rw [← hY4.out] at b2 HIm
  have yl4 : Hid (Y4.length = zs.length + 8) := by unfold Hid; rw [hY4.out, List.length_append, slotsL_len]; rfl
  obtain ⟨a2, c2, h2⟩ := b2.shape
  subst h2
  clear hB hlow hY4 f0 f1 f2 f3 fl
  obtain ⟨f0, f1, f2, f3, fl⟩ := HXc.out w2 b2.k8
  go_wp2_with fail
  obtain ⟨wo, hwo⟩ := hidq8 w2
  rw [← hwo.out] at b2 ⊢
  clear hwo f0 f1 f2 f3 fl
  go_loopw [0, 25] (fun b i wr => ∃ (m : Nat), i = .int .i64 (m : Int) ∧ m ≤ C.ins.length ∧ Bf wc W wr b (Y4 ++ insL (C.ins.take m))) (fun _ i _ => C.ins.length - (intOf i).toNat)
  case atStart => exact ⟨0, rfl, Nat.zero_le _, by simpa [insL] using b2⟩
  case round =>
    clear b2
    obtain ⟨m, rfl, hm, hB⟩ := hrel
    by_cases hmt : m < C.ins.length
    · obtain ⟨g6, off6, rfl, hg6, e0, e1, e2, e3, e4⟩ := Is.elem (H0.out wr hB.lat) m hmt
      have i4 : (m : Int) < (C.ins.length : Int) := by omega
      obtain ⟨w1o, w1a, w1b, w1c, w1n⟩ := hR.ins _ (List.getElem_mem hmt)
      have zI : Y4.length + (insL (C.ins.take m)).length + 12 ≤ 100000000 := by
        have u1 := insL_len (C.ins.take m)
        have u2 := insL_len C.ins
        have u3 := HLn.out
        have u4 := yl4.out
        rw [List.length_take] at u1
        omega
      obtain ⟨Y5, hY5⟩ := hidq8 (Y4 ++ insL (C.ins.take m))
      rw [← hY5.out] at hB
      have y5 : Y5.length + 12 ≤ 100000000 := by rw [hY5.out, List.length_append]; omega
      have HN3 : Hid (Y4 ++ insL (C.ins.take (m + 1)) = Y5 ++ isL C.ins[m]) := by unfold Hid; rw [List.take_succ_eq_append_getElem hmt, insL_snoc, hY5.out, List.append_assoc]
      unfold isL at HN3
      generalize C.ins[m].op = z0 at *
      generalize C.ins[m].a = z1 at *
      generalize C.ins[m].b = z2 at *
      generalize C.ins[m].c = z3 at *
      generalize C.ins[m].n = z4 at *
      obtain ⟨wn, hwn⟩ := hidq8 (wr.alloc (.cells #[.int .i64 z0, .int .i64 z1, .int .i64 z2, .int .i64 z3, .int .i64 z4] 60))
      obtain ⟨bn, hbn⟩ := hidq8 wr.heap.size
      have bN : Bx wn bn [.int .i64 z0, .int .i64 z1, .int .i64 z2, .int .i64 z3, .int .i64 z4] := by rw [hwn.out, hbn.out]; exact Bx.new _ _ _ (by decide)
      have hBn : Bf wc W wn u0 Y5 := by rw [hwn.out]; exact hB.alloc _
      have kwn : Hid (K8 wc wn) := (show K8 wc wn from hBn.k8)
      have hbf := hBn.from
      have HXn : Hid (∀ w', K8 wn w' → w'.cell? ⟨bn, 4, none⟩ = some (.int .i64 z4) ∧ bn < w'.heap.size) := fun w' q => ⟨(bN.k8 q).cell 4 _ rfl, (bN.k8 q).lt⟩
      have n0 := bN.cell 0 _ rfl
      have n1 := bN.cell 1 _ rfl
      have n2 := bN.cell 2 _ rfl
      have n3 := bN.cell 3 _ rfl
      have nl := bN.lt
      obtain ⟨a6, c6, h6⟩ := hB.shape
      subst h6
      have hlow : Hid (∀ w', w' = wn.alloc (.cells #[.int .i64 z0, .int .i64 z1, .int .i64 z2, .int .i64 z3] 3) → Calls Try.prog 54 #[.slice a6 Y5.length c6, .slice (some ⟨wn.heap.size, 0, none⟩) 4 4] w' fun e w2 => ∃ v2, e = .returned v2 ∧ Bf wn W w2 v2 (Y5 ++ [z0, z1, z2, z3])) := fun w' e => by
        subst e
        have hn : ∀ n ∈ [z0, z1, z2, z3], W1 n := fun n hn => by
          simp only [List.mem_cons, List.not_mem_nil, or_false] at hn
          rcases hn with rfl | rfl | rfl | rfl <;> assumption
        have bx := Bx.new wn #[.int .i64 z0, .int .i64 z1, .int .i64 z2, .int .i64 z3] 3 (by decide)
        refine (low8_any _ W _ _ _ Y5 [z0, z1, z2, z3] (hbf.alloc _).from (fun w2 _ k => ints_rd [z0, z1, z2, z3] (bx.k8 k) (by simp)) hn (by simp; omega)).mono ?_
        rintro e w2 ⟨v2, rfl, b2⟩
        rw [lowL_one _ hn] at b2
        exact ⟨v2, rfl, b2.back (later1 _ _).k8⟩
      clear hY5 zI hB hBn bN w1o w1a w1b w1c w1n
      go_upto_region 5 with fail
      rw [← hwn.out, ← hbn.out]
      clear hwn hbn e0 e1 e2 e3 e4
      go_wp2_with fail
      refine (hlow.out _ rfl).mono ?_
      rintro e w3 ⟨v3, rfl, b3⟩
      obtain ⟨Y6, hY6⟩ := hidq8 (Y5 ++ [z0, z1, z2, z3])
      rw [← hY6.out] at b3
      have y6 : Y6.length + 8 ≤ 100000000 := by rw [hY6.out, List.length_append]; simp; omega
      have HN4 : Hid (Y4 ++ insL (C.ins.take (m + 1)) = Y6 ++ eightL z4 8) := by unfold Hid; rw [HN3.out, hY6.out, List.append_assoc]
      obtain ⟨a7, c7, h7⟩ := b3.shape
      subst h7
      have hlow2 : Hid (∀ w', w' = w3.alloc (.cells #[.int .i64 z4] 3) → Calls Try.prog 83 #[.slice a7 Y6.length c7, .slice (some ⟨w3.heap.size, 0, none⟩) 1 1] w' fun e w2 => ∃ v2, e = .returned v2 ∧ Bf wn W w2 v2 (Y6 ++ eightL z4 8)) := fun w' e => by
        subst e
        have bx := Bx.new w3 #[.int .i64 z4] 3 (by decide)
        refine (low64_any _ W _ _ _ Y6 [z4] (b3.alloc _).from (fun w2 _ k => ints_rd [z4] (bx.k8 k) (by simp)) (by simp; omega)).mono ?_
        rintro e w2 ⟨v2, rfl, b2⟩
        rw [lowL, lowL, List.append_nil] at b2
        exact ⟨v2, rfl, b2.back (b3.k8.trans (later1 _ _).k8)⟩
      obtain ⟨nn, nnl⟩ := HXn.out w3 b3.k8
      clear hlow hY6 HN3 hbf b3 n0 n1 n2 n3 nl
      go_wp2_with fail
      refine (hlow2.out _ rfl).mono ?_
      rintro e w5 ⟨v5, rfl, b5⟩
      have b5' : Bf wc W w5 v5 (Y4 ++ insL (C.ins.take (m + 1))) := by rw [HN4.out]; exact b5.back kwn.out
      obtain ⟨a8, c8, h8⟩ := b5'.shape
      obtain ⟨N9, hN9⟩ := hidq8 (Y4 ++ insL (C.ins.take (m + 1))).length
      rw [← hN9.out] at h8
      subst h8
      clear hlow2 b5 hN9
      go_wp2_with fail
      go_roundw
      case rel => exact ⟨m + 1, by go_num, by omega, b5'⟩
      case measure => simp [intOf]; omega
    · have i4 : ¬ (m : Int) < (C.ins.length : Int) := by omega
      have i5 : decide ((m : Int) < (C.ins.length : Int)) = false := decide_eq_false i4
      rw [List.take_of_length_le (by omega)] at hB
      obtain ⟨Y5, hY5⟩ := hidq8 (Y4 ++ insL C.ins)
      rw [← hY5.out] at hB HIm
      have yl5 : Hid (Y5.length + (masL C.maps).length ≤ 100000000) := by unfold Hid; rw [hY5.out, List.length_append]; have := yl4.out; have := HLn.out; omega
      obtain ⟨f0, f1, f2, f3, fl⟩ := HXc.out wr hB.k8
      clear hY5 H0 yl4 HLn
      go_wp2_with fail
      obtain ⟨wp, hwp⟩ := hidq8 wr
      rw [← hwp.out] at hB ⊢
      clear hwp f0 f1 f2 f3 fl
      go_loopw [0, 49] (fun b i wr => ∃ (m : Nat), i = .int .i64 (m : Int) ∧ m ≤ C.maps.length ∧ Bf wc W wr b (Y5 ++ masL (C.maps.take m))) (fun _ i _ => C.maps.length - (intOf i).toNat)
      case atStart => exact ⟨0, rfl, Nat.zero_le _, by simpa [masL] using hB⟩
      case round =>
        clear hB
        obtain ⟨m2, rfl, hm2, hB⟩ := hrel
        by_cases hmt2 : m2 < C.maps.length
        · obtain ⟨g7, off7, v7, rfl, hg7, e0, e1, rs⟩ := Ma.elem (H1.out W (Later.refl _)) m2 hmt2
          obtain ⟨as7, cs7, rfl, hls⟩ := In.slice rs
          have i6 : (m2 : Int) < (C.maps.length : Int) := by omega
          obtain ⟨wpc, wsl, wss⟩ := hR.maps _ (List.getElem_mem hmt2)
          have zM : (masL (C.maps.take m2)).length + (maL C.maps[m2]).length ≤ (masL C.maps).length := by
            have u4 : masL C.maps = masL (C.maps.take m2) ++ (maL C.maps[m2] ++ masL (C.maps.drop (m2 + 1))) := by
              have e := congrArg masL (show C.maps = C.maps.take m2 ++ C.maps.drop m2 from (List.take_append_drop _ _).symm)
              rw [List.drop_eq_getElem_cons hmt2] at e
              rw [e]
              have app : ∀ p q : List Ma, masL (p ++ q) = masL p ++ masL q := fun p q => by
                induction p with
                | nil => simp [masL]
                | cons y r ih => rw [List.cons_append, masL, masL, ih, List.append_assoc]
              rw [app, masL]
            have u5 := congrArg List.length u4
            simp only [List.length_append] at u5
            omega
          obtain ⟨Y6, hY6⟩ := hidq8 (Y5 ++ masL (C.maps.take m2))
          rw [← hY6.out] at hB
          have HN4 : Hid (Y5 ++ masL (C.maps.take (m2 + 1)) = Y6 ++ maL C.maps[m2]) := by unfold Hid; rw [List.take_succ_eq_append_getElem hmt2, masL_snoc, hY6.out, List.append_assoc]
          have y7 : Y6.length + 4 + 2 * C.maps[m2].slots.length ≤ 100000000 := by
            have e := yl5.out
            have e1 := maL_len C.maps[m2]
            have e2 : C.maps[m2].sz = C.maps[m2].slots.length := by obtain ⟨pc, l⟩ := C.maps[m2]; rfl
            rw [hY6.out, List.length_append]
            omega
          have hcc := fun o => (show wr.cell? ⟨g7, o, none⟩ = W.cell? ⟨g7, o, none⟩ from Below.cell hB.lat (p := ⟨g7, o, none⟩) hg7)
          rw [← hcc] at e0 e1
          have hgw := Nat.lt_of_lt_of_le hg7 hB.lat.size
          unfold maL at HN4
          have HRs : Hid (∀ w', Later W w' → RdL w' 1 (.slice as7 C.maps[m2].slots.length cs7) (In.dats C.maps[m2].slots)) := fun w' l => RdL.later l rs
          generalize hsl : (C.maps[m2].slots : List Int) = sl at *
          generalize C.maps[m2].pc = zpc at *
          obtain ⟨wm, hwm⟩ := hidq8 (wr.alloc (.cells #[.int .i64 zpc, .slice as7 sl.length cs7] 63))
          obtain ⟨bm, hbm⟩ := hidq8 wr.heap.size
          have bM : Bx wm bm [.int .i64 zpc, .slice as7 sl.length cs7] := by rw [hwm.out, hbm.out]; exact Bx.new _ _ _ (by decide)
          have hBm : Bf wc W wm u0 Y6 := by rw [hwm.out]; exact hB.alloc _
          have kwm : Hid (K8 wc wm) := (show K8 wc wm from hBm.k8)
          have hbf := hBm.from
          have HXm : Hid (∀ w', K8 wm w' → w'.cell? ⟨bm, 1, none⟩ = some (.slice as7 sl.length cs7) ∧ bm < w'.heap.size) := fun w' q => ⟨(bM.k8 q).cell 1 _ rfl, (bM.k8 q).lt⟩
          have n0 := bM.cell 0 _ rfl
          have n1 := bM.cell 1 _ rfl
          have nl := bM.lt
          obtain ⟨a6, c6, h6⟩ := hB.shape
          subst h6
          have hlow : Hid (∀ w', w' = wm.alloc (.cells #[.int .i64 zpc, .int .i64 (sl.length : Int)] 3) → Calls Try.prog 53 #[.slice a6 Y6.length c6, .slice (some ⟨wm.heap.size, 0, none⟩) 2 2] w' fun e w2 => ∃ v2, e = .returned v2 ∧ Bf wm W w2 v2 (Y6 ++ slotsL [zpc, (sl.length : Int)])) := fun w' e => by
            subst e
            have hn : ∀ n ∈ [zpc, (sl.length : Int)], W2 n := fun n hn => by
              simp only [List.mem_cons, List.not_mem_nil, or_false] at hn
              rcases hn with rfl | rfl <;> assumption
            have bx := Bx.new wm #[.int .i64 zpc, .int .i64 (sl.length : Int)] 3 (by decide)
            refine (low16_any _ W _ _ _ Y6 [zpc, (sl.length : Int)] (hbf.alloc _).from (fun w2 _ k => ints_rd [zpc, (sl.length : Int)] (bx.k8 k) (by simp)) hn (by simp; omega)).mono ?_
            rintro e w2 ⟨v2, rfl, b2⟩
            rw [lowL_two _ hn] at b2
            exact ⟨v2, rfl, b2.back (later1 _ _).k8⟩
          have hW2s : Hid (∀ s ∈ sl, W2 s) := wss
          clear hY6 zM hB hBm bM wpc wsl wss rs hsl hcc
          go_upto_region 11 with fail
          rw [← hwm.out, ← hbm.out]
          clear hwm hbm e0 e1
          go_wp2_with fail
          refine (hlow.out _ rfl).mono ?_
          rintro e w3 ⟨v3, rfl, b3⟩
          obtain ⟨Y8, hY8⟩ := hidq8 (Y6 ++ slotsL [zpc, (sl.length : Int)])
          rw [← hY8.out] at b3
          have y8 : Y8.length + 2 * sl.length ≤ 100000000 := by rw [hY8.out, List.length_append, slotsL_len]; simp; omega
          have HN5 : Hid (Y5 ++ masL (C.maps.take (m2 + 1)) = Y8 ++ slotsL sl) := by unfold Hid; rw [HN4.out, hY8.out]; simp only [slotsL, List.append_assoc, List.append_nil]
          obtain ⟨a7, c7, h7⟩ := b3.shape
          subst h7
          have hx := low16_any wm W w3 _ _ Y8 sl b3 (fun w2 l _ => HRs.out w2 l) hW2s.out (by omega)
          rw [lowL_two _ hW2s.out] at hx
          obtain ⟨nn, nnl⟩ := HXm.out w3 b3.k8
          clear hlow hY8 HN4 hbf b3 n0 n1 nl
          go_wp2_with fail
          refine hx.mono ?_
          rintro e w5 ⟨v5, rfl, b5⟩
          have b5' : Bf wc W w5 v5 (Y5 ++ masL (C.maps.take (m2 + 1))) := by rw [HN5.out]; exact b5.back kwm.out
          obtain ⟨a8, c8, h8⟩ := b5'.shape
          obtain ⟨N9, hN9⟩ := hidq8 (Y5 ++ masL (C.maps.take (m2 + 1))).length
          rw [← hN9.out] at h8
          subst h8
          clear hx b5 hN9
          go_wp2_with fail
          go_roundw
          case rel => exact ⟨m2 + 1, by go_num, by omega, b5'⟩
          case measure => simp [intOf]; omega
        · have i6 : ¬ (m2 : Int) < (C.maps.length : Int) := by omega
          have i7 : decide ((m2 : Int) < (C.maps.length : Int)) = false := decide_eq_false i6
          rw [List.take_of_length_le (by omega), ← HIm.out] at hB
          have HZ := HF.out _ _ (hB.back kwc.out)
          clear hB
          go_wp2_with fail
          exact HZ
end Go.Proofs.Ytlfkjjnhlkaipaa
