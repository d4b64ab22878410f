/- The bytes of an image by the program: ImageBytes. -/
import Derived.Test.YtlfkjjnhlkaipaaH2
import Derived.Test.YtlfkjjnhlkaipaaG6
import Derived.Test.YtlfkjjnhlkaipaaG9
import Derived.Deep.Cut
import Derived.Deep.CutRange
import Derived.Laws.MakeOwn
import Derived.Lib.AppendStr
namespace Go.Proofs.Ytlfkjjnhlkaipaa
open Go.RowKit Go.Lib

theorem bssL_cut (l : List Bs) (k : Nat) (hk : k < l.length) : (bssL (l.take k)).length + (bsL l[k]).length ≤ (bssL l).length := by
  have app : ∀ p q : List Bs, bssL (p ++ q) = bssL p ++ bssL q := fun p q => by
    induction p with
    | nil => simp [bssL]
    | cons y r ih => rw [List.cons_append, bssL, bssL, ih, List.append_assoc]
  have e := congrArg (fun z => (bssL z).length) (show l = l.take k ++ l.drop k from (List.take_append_drop _ _).symm)
  rw [List.drop_eq_getElem_cons hk] at e
  simp only [app, bssL, List.length_append] at e
  omega
theorem cdsL_cut (l : List Cd) (k : Nat) (hk : k < l.length) : (cdsL (l.take k)).length + (cdL l[k]).length ≤ (cdsL l).length := by
  have app : ∀ p q : List Cd, cdsL (p ++ q) = cdsL p ++ cdsL q := fun p q => by
    induction p with
    | nil => simp [cdsL]
    | cons y r ih => rw [List.cons_append, cdsL, cdsL, ih, List.append_assoc]
  have e := congrArg (fun z => (cdsL z).length) (show l = l.take k ++ l.drop k from (List.take_append_drop _ _).symm)
  rw [List.drop_eq_getElem_cons hk] at e
  simp only [app, cdsL, List.length_append] at e
  omega
theorem bitL_w (b : Bool) : W1 (bitL b) := by cases b <;> exact ⟨by decide, by decide⟩
theorem ione_any (w : World) (b : Bool) : Calls Try.prog 55 #[.bool b] w fun e w' => e = .returned (.int .i64 (bitL b)) ∧ w' = w := by
  cases b
  all_goals
    go_enter Try.func55, Try.ntmps55
    go_wp2
    go_ret
    exact ⟨rfl, rfl⟩
set_option maxRecDepth 20000 in
set_option maxHeartbeats 1000000 in
theorem ibytes_no (x : Im) (sv cv : Value) (w : World) (h0 : RdL w 1 sv (Bs.dats x.structs)) (h1 : RdL w 4 cv (Cd.dats x.codes)) (hsz : x.sz ≤ 1048576) (hb : imB x = false) :
    Calls Try.prog 28 #[.agg #[sv, cv, .int .i64 x.main]] w fun e w' => e = .returned (.tuple #[.slice none 0 0, .bool false]) ∧ Later w w' := by
  obtain ⟨a, cap, rfl, hl⟩ := Bs.slice h0
  obtain ⟨a', cap', rfl, hl'⟩ := Cd.slice h1
  have hx := iimok_b x _ _ (w.alloc (.cells #[.slice a x.structs.length cap, .slice a' x.codes.length cap', .int .i64 x.main] 32)) (RdL.later (later1 _ _) h0) (RdL.later (later1 _ _) h1) hsz hb
  clear h0 h1
  go_enter Try.func28, Try.ntmps28
  go_wp2_with fail
  refine hx.mono ?_
  rintro e w1 ⟨rfl, l1⟩
  clear hx
  go_wp2_with fail
  exact bodyPost_ret (v := .tuple #[.slice none 0 0, .bool false]) (by simp [results, Try.results28, go_sem]) rfl ⟨rfl, (later1 _ _).trans l1⟩
set_option maxRecDepth 20000 in
set_option maxHeartbeats 4000000 in
theorem ibytes_any (x : Im) (sv cv : Value) (w : World) (h0 : RdL w 1 sv (Bs.dats x.structs)) (h1 : RdL w 4 cv (Cd.dats x.codes)) (hsz : x.sz ≤ 1048576) (hb : imB x = true) (hR : x.Rg) :
    Calls Try.prog 28 #[.agg #[sv, cv, .int .i64 x.main]] w fun e w' => ∃ v, e = .returned (.tuple #[v, .bool true]) ∧ Bf w w w' v (imL x) := by
  obtain ⟨a, cap, rfl, hl⟩ := Bs.slice h0
  obtain ⟨a', cap', rfl, hl'⟩ := Cd.slice h1
  obtain ⟨i0, hi, hz0, hz1, hz2⟩ := info_parts Try.info5
  have hM : imSz x ≤ 200000 := by unfold imB at hb; rw [Bool.and_eq_true, decide_eq_true_eq] at hb; exact hb.2
  obtain ⟨wa, hwa⟩ := hidq8 (w.alloc (.cells #[.slice a x.structs.length cap, .slice a' x.codes.length cap', .int .i64 x.main] 32))
  obtain ⟨ba, hba⟩ := hidq8 w.heap.size
  have la : Later w wa := by rw [hwa.out]; exact later1 _ _
  have bA : Bx wa ba [.slice a x.structs.length cap, .slice a' x.codes.length cap', .int .i64 x.main] := by rw [hwa.out, hba.out]; exact Bx.new _ _ _ (by decide)
  have HF : Hid (∀ v' w', Bf wa w w' v' (imL x) → ∃ v, Ending.returned (.tuple #[v', .bool true]) = .returned (.tuple #[v, .bool true]) ∧ Bf w w w' v (imL x)) := fun v' w' h => ⟨v', rfl, h.back la.k8⟩
  have HIm : Hid (imL x = (([71, 73] ++ slotsL [(x.structs.length : Int), (x.codes.length : Int), x.main]) ++ bssL x.structs) ++ cdsL x.codes) := by unfold Hid imL; simp only [slotsL, List.append_assoc, List.append_nil]
  have HLn : Hid (8 + (bssL x.structs).length + (cdsL x.codes).length ≤ 200000) := by
    unfold Hid
    have e := imL_len x
    rw [HIm.out] at e
    simp only [List.length_append, slotsL_len, List.length_cons, List.length_nil] at e
    omega
  have HX : Hid (∀ w', K8 wa w' → w'.cell? ⟨ba, 0, none⟩ = some (.slice a x.structs.length cap) ∧ w'.cell? ⟨ba, 1, none⟩ = some (.slice a' x.codes.length cap') ∧ w'.cell? ⟨ba, 2, none⟩ = some (.int .i64 x.main) ∧ ba < w'.heap.size) := fun w' k => ⟨(bA.k8 k).cell 0 _ rfl, (bA.k8 k).cell 1 _ rfl, (bA.k8 k).cell 2 _ rfl, (bA.k8 k).lt⟩
  have H0 : Hid (∀ w', Later w w' → RdL w' 1 (.slice a x.structs.length cap) (Bs.dats x.structs)) := fun w' l => RdL.later l h0
  have H1 : Hid (∀ w', Later w w' → RdL w' 4 (.slice a' x.codes.length cap') (Cd.dats x.codes)) := fun w' l => RdL.later l h1
  have HO : Hid (Calls Try.prog 51 #[.agg #[.slice a x.structs.length cap, .slice a' x.codes.length cap', .int .i64 x.main]] wa fun e w' => e = .returned (.bool true) ∧ Later wa w') := iimok_b x _ _ wa (RdL.later la h0) (RdL.later la h1) hsz hb
  have HI : Hid (∀ w', Later wa w' → Calls Try.prog 52 #[.pointer (some ⟨ba, 0, none⟩)] w' fun e w2 => e = .returned (.int .i64 (imSz x : Nat)) ∧ Later w' w2) := fun w' l => isize_any ba x _ _ w' (HX.out w' l.k8).1 (HX.out w' l.k8).2.1 (HX.out w' l.k8).2.2.2 (H0.out w' (la.trans l)) (H1.out w' (la.trans l)) hsz
  clear h0 h1 bA hb
  obtain ⟨M, hMq⟩ := hidq8 (imSz x)
  rw [← hMq.out] at HI hM
  clear hMq
  obtain ⟨t0, t1, t2, t3⟩ := HX.out wa (K8.refl _)
  go_enter Try.func28, Try.ntmps28
  go_upto_region 1 with fail
  rw [← hwa.out, ← hba.out]
  clear hwa hba
  go_wp2_with fail
  refine HO.out.mono ?_
  rintro e w1 ⟨rfl, l1⟩
  clear HO t0 t1 t2 t3
  go_wp2_with fail
  refine (HI.out _ l1).mono ?_
  rintro e w2 ⟨rfl, l2⟩
  clear HI
  have lw2 : Later w w2 := la.trans (l1.trans l2)
  obtain ⟨w3, hr3, o3, g3⟩ := run_make_own (P := Try.prog) w2 w.heap.size 22 5 i0 (.int .u8 0) 1 Try.underlying22 hi hz0 hz1 .i64 .i64 M (by rw [hz2]; omega) (by unfold maxLen; omega) lw2.size
  have l3 : Later w2 w3 := (Later.refl w2).trans' (v := .slice none 0 0) g3 (fun _ h => by cases h)
  have b3 : Bf wa w w3 (.slice (some ⟨w2.heap.size, 0, none⟩) 0 M) [] := ⟨o3, lw2.trans l3, (l1.trans (l2.trans l3)).k8⟩
  clear o3 g3
  go_upto_region 4 with (at_builtin; refine Go.Lib.wpList_append_own_string _ rfl _ _ 22 9 rfl w.heap.size 5 i0 Try.underlying22 Try.underlying9 hi hz0 hz1 hz2 (.slice (some ⟨w2.heap.size, 0, none⟩) 0 M) _ _ rfl b3.1 _ rfl (by decide) (by decide) b3.2.size ?_; intro v5 w5 o5 g5 _)
  have b5 := b3.put (ts := [71, 73]) o5 rfl rfl g5
  rw [List.nil_append] at b5
  clear b3 l3 hr3 o5 g5 l1 l2 lw2
  obtain ⟨a5, c5, h5⟩ := b5.shape
  subst h5
  have hB := b5.from
  have hlow : Hid (∀ w', w' = w5.alloc (.cells #[.int .i64 (x.structs.length : Int), .int .i64 (x.codes.length : Int), .int .i64 x.main] 3) → Calls Try.prog 53 #[.slice a5 2 c5, .slice (some ⟨w5.heap.size, 0, none⟩) 3 3] w' fun e w2 => ∃ v2, e = .returned v2 ∧ Bf w5 w w2 v2 ([71, 73] ++ slotsL [(x.structs.length : Int), (x.codes.length : Int), x.main])) := fun w' e => by
    subst e
    have hn : ∀ n ∈ [(x.structs.length : Int), (x.codes.length : Int), x.main], W2 n := fun n hn => by
      simp only [List.mem_cons, List.not_mem_nil, or_false] at hn
      rcases hn with rfl | rfl | rfl
      · exact hR.sl
      · exact hR.cl
      · exact hR.mn
    have bx := Bx.new w5 #[.int .i64 (x.structs.length : Int), .int .i64 (x.codes.length : Int), .int .i64 x.main] 3 (by decide)
    refine (low16_any _ w _ _ _ [71, 73] [(x.structs.length : Int), (x.codes.length : Int), x.main] (hB.alloc _).from (fun w2 _ k => ints_rd [(x.structs.length : Int), (x.codes.length : Int), x.main] (bx.k8 k) (by simp)) hn (by simp)).mono ?_
    rintro e w2 ⟨v2, rfl, b2⟩
    rw [lowL_two _ hn] at b2
    exact ⟨v2, rfl, b2.back (later1 _ _).k8⟩
  have k5 : Hid (K8 wa w5) := (show K8 wa w5 from b5.k8)
  clear hB
  obtain ⟨t0, t1, t2, t3⟩ := HX.out w5 b5.k8
  clear b5
  dsimp only [List.length_cons, List.length_nil]
  go_wp2_with fail
  refine (hlow.out _ rfl).mono ?_
  rintro e w6 ⟨v6, rfl, b6⟩
  obtain ⟨Y4, hY4⟩ := hidq8 ([71, 73] ++ slotsL [(x.structs.length : Int), (x.codes.length : Int), x.main])
  rw [← hY4.out] at b6 HIm
  have yl4 : Hid (Y4.length = 8) := by unfold Hid; rw [hY4.out, List.length_append, slotsL_len]; rfl
  have b7 : Bf wa w w6 v6 Y4 := b6.back k5.out
  obtain ⟨a6, c6, h6⟩ := b7.shape
  subst h6
  clear hlow hY4 b6 k5 t0 t1 t2 t3
  obtain ⟨t0, t1, t2, t3⟩ := HX.out w6 b7.k8
  go_wp2_with fail
  obtain ⟨wo, hwo⟩ := hidq8 w6
  rw [← hwo.out] at b7 ⊢
  clear hwo t0 t1 t2 t3
  go_loopw [4, 31] (fun b i wr => ∃ (k : Nat), i = .int .i64 (k : Int) ∧ k ≤ x.structs.length ∧ Bf wa w wr b (Y4 ++ bssL (x.structs.take k))) (fun _ i _ => x.structs.length - (intOf i).toNat)
  case atStart => exact ⟨0, rfl, Nat.zero_le _, by simpa [bssL] using b7⟩
  case round =>
    clear b7
    obtain ⟨k, rfl, hk, hB⟩ := hrel
    by_cases hlt : k < x.structs.length
    · obtain ⟨g, off, v0, rfl, hg, c0, rd0⟩ := Bs.elem (H0.out w (Later.refl _)) k hlt
      rw [Nat.mul_one] at c0
      obtain ⟨a0, p0, rfl, hl0⟩ := Bo.slice rd0
      have i1 : (k : Int) < (x.structs.length : Int) := by omega
      have hcc := fun o => (show wr.cell? ⟨g, o, none⟩ = w.cell? ⟨g, o, none⟩ from Below.cell hB.lat (p := ⟨g, o, none⟩) hg)
      rw [← hcc] at c0
      have hgw := Nat.lt_of_lt_of_le hg hB.lat.size
      have q0 := hR.st _ (List.getElem_mem hlt)
      have HRd : Hid (∀ w', Later w w' → RdL w' _ _ _) := fun w' l => RdL.later l rd0
      have zb := bssL_cut x.structs k hlt
      obtain ⟨Y5, hY5⟩ := hidq8 (Y4 ++ bssL (x.structs.take k))
      rw [← hY5.out] at hB
      have y5 : Y5.length + 2 + x.structs[k].l.length ≤ 200000 := by
        have u1 := HLn.out
        have u2 := yl4.out
        unfold bsL at zb
        simp only [List.length_append, List.length_map, twoL_len] at zb
        rw [hY5.out, List.length_append]
        omega
      have HN3 : Hid (Y4 ++ bssL (x.structs.take (k + 1)) = Y5 ++ bsL x.structs[k]) := by unfold Hid; rw [List.take_succ_eq_append_getElem hlt, bssL_snoc, hY5.out, List.append_assoc]
      unfold bsL at HN3
      generalize hls : (x.structs[k].l : List Bool) = ls at *
      have hbf := hB.from
      have kwr : Hid (K8 wa wr) := (show K8 wa wr from hB.k8)
      obtain ⟨a8, c8, h8⟩ := hB.shape
      subst h8
      have hlow : Hid (∀ w', w' = wr.alloc (.cells #[.int .i64 (ls.length : Int)] 3) → Calls Try.prog 53 #[.slice a8 Y5.length c8, .slice (some ⟨wr.heap.size, 0, none⟩) 1 1] w' fun e w2 => ∃ v2, e = .returned v2 ∧ Bf wr w w2 v2 (Y5 ++ twoL (ls.length : Int))) := fun w' e => by
        subst e
        have hn : ∀ n ∈ [(ls.length : Int)], W2 n := fun n hn => by
          rw [List.mem_singleton.1 hn]; exact q0
        have bx := Bx.new wr #[.int .i64 (ls.length : Int)] 3 (by decide)
        refine (low16_any _ w _ _ _ Y5 [(ls.length : Int)] (hbf.alloc _).from (fun w2 _ k => ints_rd [(ls.length : Int)] (bx.k8 k) (by simp)) hn (by simp; omega)).mono ?_
        rintro e w2 ⟨v2, rfl, b2⟩
        rw [lowL_two _ hn, slotsL, slotsL, List.append_nil] at b2
        exact ⟨v2, rfl, b2.back (later1 _ _).k8⟩
      clear hY5 zb hB hbf rd0 hcc q0 hls
      go_wp2_with fail
      refine (hlow.out _ rfl).mono ?_
      rintro e w9 ⟨v9, rfl, b9'⟩
      have b9 := b9'.back kwr.out
      obtain ⟨Y6, hY6⟩ := hidq8 (Y5 ++ twoL (ls.length : Int))
      rw [← hY6.out] at b9
      have y6 : Y6.length + ls.length ≤ 200000 := by rw [hY6.out, List.length_append, twoL_len]; omega
      have HN4 : Hid (Y4 ++ bssL (x.structs.take (k + 1)) = Y6 ++ ls.map bitL) := by unfold Hid; rw [HN3.out, hY6.out, List.append_assoc]
      obtain ⟨a9, c9, h9⟩ := b9.shape
      subst h9
      clear hlow b9' hY6 HN3 c0 kwr
      go_wp2_with fail
      obtain ⟨wp, hwp⟩ := hidq8 w9
      rw [← hwp.out] at b9 ⊢
      clear hwp
      go_loopw [4, 42] (fun b i wr => ∃ (m : Nat), i = .int .i64 (m : Int) ∧ m ≤ ls.length ∧ Bf wa w wr b (Y6 ++ (ls.take m).map bitL)) (fun _ i _ => ls.length - (intOf i).toNat)
      case atStart => exact ⟨0, rfl, Nat.zero_le _, by simpa using b9⟩
      case round =>
        clear b9
        obtain ⟨m, rfl, hm, hB⟩ := hrel
        by_cases hmt : m < ls.length
        · obtain ⟨g6, off6, rfl, hg6, y0⟩ := Bo.elem (HRd.out wr hB.lat) m hmt
          have i2 : (m : Int) < (ls.length : Int) := by omega
          have HN5 : Hid (Y6 ++ (ls.take (m + 1)).map bitL = (Y6 ++ (ls.take m).map bitL) ++ [bitL ls[m]]) := by unfold Hid; rw [List.take_succ_eq_append_getElem hmt, List.map_append, List.append_assoc]; rfl
          obtain ⟨Y7, hY7⟩ := hidq8 (Y6 ++ (ls.take m).map bitL)
          rw [← hY7.out] at hB HN5
          have y7 : Y7.length ≤ 200000 := by rw [hY7.out, List.length_append, List.length_map, List.length_take]; omega
          have hone := ione_any wr ls[m]
          have hz := bitL_w ls[m]
          generalize (bitL ls[m] : Int) = z at *
          generalize (ls[m] : Bool) = bb at *
          have hbf := hB.from
          have kwr : Hid (K8 wa wr) := (show K8 wa wr from hB.k8)
          obtain ⟨a7, c7, h7⟩ := hB.shape
          subst h7
          have hlow : Hid (∀ w', w' = wr.alloc (.cells #[.int .i64 z] 3) → Calls Try.prog 54 #[.slice a7 Y7.length c7, .slice (some ⟨wr.heap.size, 0, none⟩) 1 1] w' fun e w2 => ∃ v2, e = .returned v2 ∧ Bf wr w w2 v2 (Y7 ++ [z])) := fun w' e => by
            subst e
            have hn : ∀ n ∈ [z], W1 n := fun n hn => by
              rw [List.mem_singleton.1 hn]; exact hz
            have bx := Bx.new wr #[.int .i64 z] 3 (by decide)
            refine (low8_any _ w _ _ _ Y7 [z] (hbf.alloc _).from (fun w2 _ k => ints_rd [z] (bx.k8 k) (by simp)) hn (by simp; omega)).mono ?_
            rintro e w2 ⟨v2, rfl, b2⟩
            rw [lowL_one _ hn] at b2
            exact ⟨v2, rfl, b2.back (later1 _ _).k8⟩
          clear hY7 hB hbf hz
          go_wp2_with fail
          refine hone.mono ?_
          rintro e w7 ⟨rfl, hww⟩
          obtain rfl := hww.symm
          clear hone
          go_wp2_with fail
          refine (hlow.out _ rfl).mono ?_
          rintro e w8 ⟨v8, rfl, b8'⟩
          have b8 : Bf wa w w8 v8 (Y6 ++ (ls.take (m + 1)).map bitL) := by rw [HN5.out]; exact b8'.back kwr.out
          obtain ⟨a10, c10, h10⟩ := b8.shape
          obtain ⟨N9, hN9⟩ := hidq8 (Y6 ++ (ls.take (m + 1)).map bitL).length
          rw [← hN9.out] at h10
          subst h10
          clear hlow b8' hN9 y0
          go_wp2_with fail
          go_roundw
          case rel => exact ⟨m + 1, by go_num, by omega, b8⟩
          case measure => simp [intOf]; omega
        · have i2 : ¬ (m : Int) < (ls.length : Int) := by omega
          have i3 : decide ((m : Int) < (ls.length : Int)) = false := decide_eq_false i2
          rw [List.take_of_length_le (by omega), ← HN4.out] at hB
          clear HN4
          go_wp2_with fail
          go_roundw
          case rel => exact ⟨k + 1, by go_num, by omega, hB⟩
          case measure => simp [intOf]; omega
    · have i1 : ¬ (k : Int) < (x.structs.length : Int) := by omega
      have i2 : decide ((k : Int) < (x.structs.length : Int)) = false := decide_eq_false i1
      rw [List.take_of_length_le (by omega)] at hB
      obtain ⟨Y5, hY5⟩ := hidq8 (Y4 ++ bssL x.structs)
      rw [← hY5.out] at hB HIm
      have yl5 : Hid (Y5.length + (cdsL x.codes).length ≤ 200000) := by unfold Hid; rw [hY5.out, List.length_append]; have := yl4.out; have := HLn.out; omega
      obtain ⟨t0, t1, t2, t3⟩ := HX.out wr hB.k8
      clear hY5 H0 yl4 HLn
      go_wp2_with fail
      obtain ⟨wp, hwp⟩ := hidq8 wr
      rw [← hwp.out] at hB ⊢
      clear hwp t0 t1 t2 t3
      go_loopw [4, 56] (fun b i wr => ∃ (m : Nat), i = .int .i64 (m : Int) ∧ m ≤ x.codes.length ∧ Bf wa w wr b (Y5 ++ cdsL (x.codes.take m))) (fun _ i _ => x.codes.length - (intOf i).toNat)
      case atStart => exact ⟨0, rfl, Nat.zero_le _, by simpa [cdsL] using hB⟩
      case round =>
        clear hB
        obtain ⟨m, rfl, hm, hB⟩ := hrel
        by_cases hmt : m < x.codes.length
        · obtain ⟨g, off, v0, v1, rfl, hg, c0, c1, c2, c3, rd0, rd1⟩ := Cd.elem (H1.out w (Later.refl _)) m hmt
          have i3 : (m : Int) < (x.codes.length : Int) := by omega
          have hRc := hR.cd _ (List.getElem_mem hmt)
          have zb := cdsL_cut x.codes m hmt
          obtain ⟨Y6, hY6⟩ := hidq8 (Y5 ++ cdsL (x.codes.take m))
          rw [← hY6.out] at hB
          have y6 : Y6.length + cdSz x.codes[m] ≤ 100000000 := by
            have u1 := yl5.out
            rw [cdL_len] at zb
            rw [hY6.out, List.length_append]
            omega
          have HN : Hid (Y5 ++ cdsL (x.codes.take (m + 1)) = Y6 ++ cdL x.codes[m]) := by unfold Hid; rw [List.take_succ_eq_append_getElem hmt, cdsL_snoc, hY6.out, List.append_assoc]
          have hcc := fun o => (show wr.cell? ⟨g, o, none⟩ = w.cell? ⟨g, o, none⟩ from Below.cell hB.lat (p := ⟨g, o, none⟩) hg)
          rw [← hcc] at c0 c1 c2 c3
          have hgw := Nat.lt_of_lt_of_le hg hB.lat.size
          generalize (x.codes[m] : Cd) = C at *
          obtain ⟨a7, c7, h7⟩ := hB.shape
          subst h7
          have hcode : Hid (∀ w', w' = wr.alloc (.cells #[.int .i64 C.frame, .int .i64 C.params, v0, v1] 58) → Calls Try.prog 56 #[.slice a7 Y6.length c7, .agg #[.int .i64 C.frame, .int .i64 C.params, v0, v1]] w' (SayP wa w (Y6 ++ cdL C))) := fun w' e => by
            subst e
            exact code_any wa w _ _ v0 v1 Y6 C (hB.alloc _) (fun w' l => RdL.later l rd0) (fun w' l => RdL.later l rd1) hRc y6
          obtain ⟨ai, ci, rfl, hli⟩ := Is.slice rd0
          obtain ⟨am, cm, rfl, hlm⟩ := Ma.slice rd1
          clear hY6 zb rd0 rd1 hcc hB hRc
          generalize C.frame = zf at *
          generalize C.params = zp at *
          go_wp2_with fail
          refine (hcode.out _ rfl).mono ?_
          rintro e w8 ⟨v8, rfl, b8⟩
          rw [← HN.out] at b8
          obtain ⟨a10, c10, h10⟩ := b8.shape
          obtain ⟨N9, hN9⟩ := hidq8 (Y5 ++ cdsL (x.codes.take (m + 1))).length
          rw [← hN9.out] at h10
          subst h10
          clear hcode hN9 c0 c1 c2 c3
          go_wp2_with fail
          go_roundw
          case rel => exact ⟨m + 1, by go_num, by omega, b8⟩
          case measure => simp [intOf]; omega
        · have i3 : ¬ (m : Int) < (x.codes.length : Int) := by omega
          have i4 : decide ((m : Int) < (x.codes.length : Int)) = false := decide_eq_false i3
          rw [List.take_of_length_le (by omega), ← HIm.out] at hB
          obtain ⟨a7, c7, h7⟩ := hB.shape
          subst h7
          have HZ := HF.out _ _ hB
          clear hB
          go_wp2_with fail
          exact bodyPost_ret (v := .tuple #[.slice a7 (imL x).length c7, .bool true]) (by simp [results, Try.results28, go_sem]) rfl HZ
end Go.Proofs.Ytlfkjjnhlkaipaa
