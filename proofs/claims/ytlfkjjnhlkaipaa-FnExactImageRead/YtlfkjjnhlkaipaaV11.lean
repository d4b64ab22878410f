/- impl.ImageRead whole. -/
import Derived.Test.YtlfkjjnhlkaipaaV10
import Derived.Test.YtlfkjjnhlkaipaaH3
import Derived.Test.YtlfkjjnhlkaipaaK5
import Derived.Laws.BytesArg
namespace Go.Proofs.Ytlfkjjnhlkaipaa
open Go.RowKit Go.Lib Go.Maps

theorem RdB.isB {w : World} {v : Value} {zs : List Int} (h : RdB w v zs) : ∀ j, isB (zs.getD j 0) := by
  obtain ⟨_, _, _, _, hb, _⟩ := h
  exact hb
theorem conv_str {w : World} {v : Value} {zs : List Int} (h : RdB w v zs) : ∀ w', Later w w' → (convert 22 9 v).run Try.prog w' = .ok (.string (strOfNums zs)) w' := by
  intro w' hl
  obtain ⟨a, cap, rfl, _, _, hc⟩ := h.later hl
  rcases Nat.eq_zero_or_pos zs.length with h0 | h0
  · have : zs = [] := List.eq_nil_of_length_eq_zero h0
    subst this
    cases a with
    | none => exact run_convert_bytes_nil w' 22 5 Try.underlying22 Try.underlying5 0 cap 9 Try.underlying9
    | some x =>
      obtain ⟨b, off, sp⟩ := x
      rw [run_convert_bytes_string w' 22 9 5 _ _ cap Try.underlying22 Try.underlying5 Try.underlying9, run_bytesToString w' _ _ cap [] (by simpa using run_loadCells_list (P := Try.prog) w' ⟨b, off, sp⟩ [] (fun j v h => by simp at h))]
      rfl
  · obtain ⟨g, off, rfl, _, _⟩ := hc 0 h0
    refine run_convert_bytes_arg w' 22 5 Try.underlying22 Try.underlying5 g off zs.length cap zs rfl (fun i hi => ?_) 9 Try.underlying9
    obtain ⟨_, _, he, _, hv⟩ := hc i hi
    cases he
    exact hv
theorem conv_here {w : World} {v : Value} {zs : List Int} (h : RdB w v zs) : (convert 22 9 v).run Try.prog w = .ok (.string (strOfNums zs)) w := conv_str h w (Later.refl _)
/-- Bytes as a string tell the bytes. -/
theorem str_inj {xs ys : List Int} (hx : ∀ j, isB (xs.getD j 0)) (hy : ∀ j, isB (ys.getD j 0)) : ((strOfNums xs).toList == (strOfNums ys).toList) = decide (xs = ys) := by
  have e : ∀ zs : List Int, (strOfNums zs).toList = zs.map fun n => UInt8.ofNat n.toNat := fun zs => by
    rw [ByteArray.toList_eq]
    exact strOfNums_data zs
  rw [e, e, Bool.eq_iff_iff, beq_iff_eq, decide_eq_true_eq]
  constructor
  · intro h
    have hl : xs.length = ys.length := by simpa using congrArg List.length h
    refine eq_of_getD hl (fun j hj => ?_)
    have h1 := congrArg (fun l => l[j]?) h
    simp only [List.getElem?_map, List.getElem?_eq_getElem hj, List.getElem?_eq_getElem (show j < ys.length by omega), Option.map_some, Option.some.injEq] at h1
    have a := hx j
    have b := hy j
    rw [List.getD_eq_getElem?_getD, List.getElem?_eq_getElem hj] at a ⊢
    rw [List.getD_eq_getElem?_getD, List.getElem?_eq_getElem (show j < ys.length by omega)] at b ⊢
    simp only [Option.getD_some] at a b ⊢
    unfold isB at a b
    have h2 := congrArg UInt8.toNat h1
    rw [UInt8.toNat_ofNat', UInt8.toNat_ofNat'] at h2
    omega
  · intro h; rw [h]

theorem equalX_any (v u : Value) (xs ys : List Int) (w : World) (h : RdB w v xs) (k : RdB w u ys) : Calls Try.prog 29 #[v, u] w fun e w' => e = .returned (.bool (decide (xs = ys))) ∧ w' = w := by
  have hc := conv_here h
  have kc := conv_here k
  have hs := str_inj h.isB k.isB
  obtain ⟨a, cap, rfl, _⟩ := h.slice
  obtain ⟨b, cap', rfl, _⟩ := k.slice
  clear h k
  go_enter Try.func29, Try.ntmps29
  go_wp2_with fail
  go_ret
  exact ⟨rfl, rfl⟩
theorem two_by {n : Int} (h : W2 n) : ∀ z ∈ twoL n, 0 ≤ z ∧ z ≤ 255 := by
  unfold W2 at h
  intro z hz
  unfold twoL at hz
  simp only [List.mem_cons, List.not_mem_nil, or_false] at hz
  omega
theorem app_by {l r : List Int} (h : ∀ z ∈ l, 0 ≤ z ∧ z ≤ 255) (k : ∀ z ∈ r, 0 ≤ z ∧ z ≤ 255) : ∀ z ∈ l ++ r, 0 ≤ z ∧ z ≤ 255 := fun z hz => (List.mem_append.1 hz).elim (h z) (k z)
theorem eight_by (n : Int) : ∀ j, ∀ z ∈ eightL n j, 0 ≤ z ∧ z ≤ 255
  | 0, z, hz => by cases hz
  | j + 1, z, hz => by
    rw [eightL] at hz
    rcases List.mem_append.1 hz with h | h
    · exact eight_by n j z h
    · rw [List.mem_singleton.1 h]
      omega
theorem flat_by {X : Type} {enc : X → List Int} {encs : List X → List Int} (e0 : encs [] = []) (e1 : ∀ x l, encs (x :: l) = enc x ++ encs l) : ∀ (l : List X), (∀ x ∈ l, ∀ z ∈ enc x, 0 ≤ z ∧ z ≤ 255) → ∀ z ∈ encs l, 0 ≤ z ∧ z ≤ 255
  | [], _, z, hz => by rw [e0] at hz; cases hz
  | x :: l, h, z, hz => by
    rw [e1] at hz
    rcases List.mem_append.1 hz with k | k
    · exact h x (List.mem_cons_self ..) z k
    · exact flat_by e0 e1 l (fun y hy => h y (List.mem_cons_of_mem _ hy)) z k
theorem imL_by {x : Im} (h : x.Rg) : ∀ z ∈ imL x, 0 ≤ z ∧ z ≤ 255 := by
  unfold imL
  refine app_by (fun z hz => by simp only [List.mem_cons, List.not_mem_nil, or_false] at hz; omega) (app_by (two_by h.sl) (app_by (two_by h.cl) (app_by (two_by h.mn) (app_by ?_ ?_))))
  · refine flat_by (enc := bsL) rfl (fun _ _ => rfl) _ (fun b hb => ?_)
    unfold bsL
    refine app_by (two_by (h.st b hb)) (fun z hz => ?_)
    obtain ⟨q, _, rfl⟩ := List.mem_map.1 hz
    cases q <;> decide
  · refine flat_by (enc := cdL) rfl (fun _ _ => rfl) _ (fun c hc => ?_)
    have k := h.cd c hc
    unfold cdL
    refine app_by (two_by k.fr) (app_by (two_by k.pr) (app_by (two_by k.il) (app_by (two_by k.ml) (app_by ?_ ?_))))
    · refine flat_by (enc := isL) rfl (fun _ _ => rfl) _ (fun i hi => ?_)
      have q := k.ins i hi
      unfold isL
      refine app_by (fun z hz => ?_) (eight_by _ _)
      simp only [List.mem_cons, List.not_mem_nil, or_false] at hz
      unfold W1 at q
      omega
    · refine flat_by (enc := maL) rfl (fun _ _ => rfl) _ (fun m hm => ?_)
      have q := k.maps m hm
      unfold maL
      exact app_by (two_by q.1) (app_by (two_by q.2.1) (flat_by (enc := twoL) rfl (fun _ _ => rfl) _ (fun s hs => two_by (q.2.2 s hs))))
theorem isB_of {l : List Int} (h : ∀ z ∈ l, 0 ≤ z ∧ z ≤ 255) (j : Nat) : isB (l.getD j 0) := by
  unfold isB
  rw [List.getD_eq_getElem?_getD]
  rcases Nat.lt_or_ge j l.length with q | q
  · rw [List.getElem?_eq_getElem q]
    exact h _ (List.getElem_mem _)
  · rw [List.getElem?_eq_none q]; exact ⟨by decide, by decide⟩
theorem of_isB {l : List Int} (h : ∀ j, isB (l.getD j 0)) : ∀ z ∈ l, 0 ≤ z ∧ z ≤ 255 := by
  intro z hz
  obtain ⟨j, hj, rfl⟩ := List.mem_iff_getElem.1 hz
  have := h j
  rw [List.getD_eq_getElem?_getD, List.getElem?_eq_getElem hj] at this
  exact this
theorem row_rdb {w : World} {base : Nat} {v : Value} {zs : List Int} (h : w.ownsRow base 5 1 v zs.length (zs.map (Value.int .u8))) (hb : ∀ z ∈ zs, 0 ≤ z ∧ z ≤ 255) (hl : (zs.length : Int) ≤ 9223372036854775807) : RdB w v zs := by
  rcases h.2 with ⟨rfl, h0⟩ | ⟨g, cap, cur, rfl, _, hg, _⟩
  · exact ⟨none, 0, by rw [h0], hl, isB_of hb, fun j hj => by omega⟩
  · refine ⟨_, cap, rfl, hl, isB_of hb, fun j hj => ⟨g, 0, rfl, (Array.getElem?_eq_some_iff.1 hg).1, ?_⟩⟩
    rw [Nat.zero_add, h.cellAt j (by omega), List.getElem?_map, List.getElem?_eq_getElem hj, List.getD_eq_getElem?_getD, List.getElem?_eq_getElem hj]
    rfl
def zeroIm : Im := .mk [] [] 0
/-- What the program answers. -/
def irR (zs : List Int) : Im × Bool := if 200000 < zs.length then (zeroIm, false) else if imB (rdIm ⟨zs, false⟩).1 && decide (imL (rdIm ⟨zs, false⟩).1 = zs) then ((rdIm ⟨zs, false⟩).1, true) else (zeroIm, false)
/-- An image and whether there is one, of its own. -/
def IrP (w : World) (r : Im × Bool) (e : Ending) (w' : World) : Prop := ∃ zm a1 c1 n1 a2 c2 n2 F, e = .returned (.tuple #[.agg #[.slice a1 n1 c1, .slice a2 n2 c2, .int .i64 zm], .bool r.2]) ∧ (zm = r.1.main ∧ n1 = r.1.structs.length ∧ n2 = r.1.codes.length) ∧ Own w.heap.size w' (Im.dat r.1) [.slice a1 n1 c1, .slice a2 n2 c2, .int .i64 zm] F ∧ Later w w'
theorem own_l0 (w : World) (k : Nat) : OwnD w (.list k []) [.slice none 0 0] [] := by
  rw [OwnD]
  exact ⟨none, 0, rfl, ⟨by decide, by decide, by decide⟩, fun q => (by cases q), fun _ => rfl⟩
theorem zero_own (base : Nat) (w : World) : Own base w (Im.dat zeroIm) [.slice none 0 0, .slice none 0 0, .int .i64 0] [] := Own.mk' (Im.own (x := zeroIm) (F0 := []) (F1 := []) (own_l0 _ _) (own_l0 _ _)) (Fr.nil _ _)
theorem build_rd (a : Option Addr) (n c : Nat) (w : World) : (Instr.build 66 #[(0, .slice a n c)]).run Try.prog w = .ok (.agg #[.slice a n c, .bool false]) w := run_build w 66 _ _ (by kernel_rfl)
theorem build_z (w : World) : (Instr.build 32 #[]).run Try.prog w = .ok (.agg #[.slice none 0 0, .slice none 0 0, .int .i64 0]) w := run_build w 32 _ _ (by kernel_rfl)
set_option maxRecDepth 20000 in
set_option maxHeartbeats 4000000 in
theorem iread_any (zs : List Int) (g off cap : Nat) (w : World) (hby : ∀ z ∈ zs, 0 ≤ z ∧ z ≤ 255) (hg : g < w.heap.size) (hc1 : zs.length ≤ cap) (hc2 : cap ≤ 1048576) (hcs : ∀ j (h : j < zs.length), w.cell? ⟨g, off + j, none⟩ = some (.int .u8 zs[j])) :
    Calls Try.prog 10 #[.slice (some ⟨g, off, none⟩) zs.length cap] w (IrP w (irR zs)) := by
  have hbl := build_rd
  have hbz := build_z
  obtain ⟨wa, hwa⟩ := hidx (w.alloc (.cells #[.slice none 0 0, .slice none 0 0, .int .i64 0] 32))
  have la : Later w wa := by rw [hwa.out]; exact later1 _ _
  have hbx : Bxx wa w.heap.size [.slice none 0 0, .slice none 0 0, .int .i64 0] := by rw [hwa.out]; exact Bxx.new _ _ _
  have sa : wa.heap.size = w.heap.size + 1 := by rw [hwa.out]; simp
  have HNo : Hid (irR zs = (zeroIm, false) → ∀ w', Later w w' → IrP w (irR zs) (.returned (.tuple #[.agg #[.slice none 0 0, .slice none 0 0, .int .i64 0], .bool false])) w') := fun h w' l => by
    rw [h]
    exact ⟨_, _, _, _, _, _, _, [], rfl, ⟨rfl, rfl, rfl⟩, zero_own _ _, l⟩
  by_cases hlen : 200000 < zs.length
  · have hi : (200000 : Int) < (zs.length : Int) := by omega
    have HN := HNo.out (by unfold irR; rw [if_pos hlen])
    generalize IrP w (irR zs) = Q at *
    clear HNo hcs
    have b0 := (hbx.cell 0 _ rfl).1
    have b1 := (hbx.cell 1 _ rfl).1
    have b2 := (hbx.cell 2 _ rfl).1
    have bf0 := (hbx.cell 0 _ rfl).2
    have bf1 := (hbx.cell 1 _ rfl).2
    have bf2 := (hbx.cell 2 _ rfl).2
    have bl := hbx.lt
    generalize zs.length = N at *
    go_enter Try.func10, Try.ntmps10
    go_wp2_with fail
    rw [← hwa.out]
    go_wp2_with fail
    refine bodyPost_ret (v := .tuple #[.agg #[.slice none 0 0, .slice none 0 0, .int .i64 0], .bool false]) (by simp [results, Try.results10, go_sem, b0, b1, b2]) rfl (HN _ ?_)
    repeat (first | with_reducible exact la | refine Later.setAt ?_ (by omega) _ _)
  · have hi : ¬ (200000 : Int) < (zs.length : Int) := by omega
    obtain ⟨m, hm⟩ := hidx (rdIm ⟨zs, false⟩).1
    have hsz : m.sz ≤ 1048576 := by rw [hm.out]; have := rdIm_sz ⟨zs, false⟩; dsimp only at this; omega
    have hok : ∀ c ∈ m.codes, ∀ y ∈ c.ins, y.Ok := by rw [hm.out]; exact rdIm_ok (s := ⟨zs, false⟩) hby
    have hir : irR zs = if imB m && decide (imL m = zs) then (m, true) else (zeroIm, false) := by unfold irR; rw [if_neg hlen, ← hm.out]
    obtain ⟨R, hR⟩ := hidx (w.heap.size + 1)
    obtain ⟨wb, hwb⟩ := hidx (wa.alloc (.cells #[.slice (some ⟨g, off, none⟩) zs.length cap, .bool false] 66))
    have lb : Later wa wb := by rw [hwb.out]; exact later1 _ _
    have sb : wb.heap.size = R + 1 := by rw [hwb.out, hR.out, ← sa]; simp
    have hwR : w.heap.size < R := by rw [hR.out]; omega
    have hrb : Bxx wb R [.slice (some ⟨g, off, none⟩) zs.length cap, .bool false] := by rw [hwb.out, hR.out, ← sa]; exact Bxx.new _ _ _
    have L0 := la.trans lb
    have hRb : Rb (R + 1) wb R ⟨zs, false⟩ := ⟨Nat.lt_succ_self _, by rw [sb]; exact Nat.le_refl _, ⟨_, cap, (hrb.cell 0 _ rfl).1, hc1, hc2, fun _ => ⟨g, off, rfl, by omega, by omega, fun j hj => by rw [Below.cell L0 (p := ⟨g, off + j, none⟩) hg]; exact hcs j hj⟩⟩, (hrb.cell 1 _ rfl).1, (hrb.cell 0 _ rfl).2, (hrb.cell 1 _ rfl).2, hby⟩
    have hBb : RdB w (.slice (some ⟨g, off, none⟩) zs.length cap) zs := ⟨_, cap, rfl, by omega, isB_of hby, fun j hj => ⟨g, off, rfl, hg, by rw [hcs j hj, List.getD_eq_getElem?_getD, List.getElem?_eq_getElem hj]; rfl⟩⟩
    have hbxb := hbx.later lb
    have HI := image_any hRb
    have HEQ := fun w' v (l : Later w w') (h : RdB w' v (imL m)) => equalX_any v (.slice (some ⟨g, off, none⟩) zs.length cap) (imL m) zs w' h (hBb.later l)
    clear hRb hrb hBb hcs
    have HYes : Hid (imB m = true → imL m = zs → ∀ zm a1 c1 n1 a2 c2 n2 F w', zm = m.main → n1 = m.structs.length → n2 = m.codes.length → Own w.heap.size w' (Im.dat m) [.slice a1 n1 c1, .slice a2 n2 c2, .int .i64 zm] F → Later w w' → IrP w (irR zs) (.returned (.tuple #[.agg #[.slice a1 n1 c1, .slice a2 n2 c2, .int .i64 zm], .bool true])) w') := fun h1 h2 zm a1 c1 n1 a2 c2 n2 F w' e1 e2 e3 ho l => by
      rw [hir, h1, decide_eq_true h2]
      exact ⟨_, _, _, _, _, _, _, F, rfl, ⟨e1, e2, e3⟩, ho, l⟩
    have HNo2 : Hid (¬ (imB m = true ∧ imL m = zs) → ∀ w', Later w w' → IrP w (irR zs) (.returned (.tuple #[.agg #[.slice none 0 0, .slice none 0 0, .int .i64 0], .bool false])) w') := fun h => HNo.out (by
      rw [hir]
      refine if_neg (fun q => h ?_)
      rw [Bool.and_eq_true, decide_eq_true_eq] at q
      exact q)
    clear HNo hir sa
    generalize IrP w (irR zs) = Q at *
    generalize zs.length = N at *
    go_enter Try.func10, Try.ntmps10
    go_wp2_with fail
    rw [← hwa.out, ← hwb.out, ← hR.out]
    refine HI.mono ?_
    rintro e w1 ⟨zm, a1, c1, n1, a2, c2, n2, F, rfl, hN, hO, hRx, o1⟩
    rw [← hm.out] at hN hO
    obtain ⟨hz, hn1, hn2⟩ := hN
    obtain ⟨u0, u1, eu, r0, r1⟩ := Im.view hO.rd
    simp only [List.cons.injEq, Value.int.injEq, true_and, and_true] at eu
    obtain ⟨eu0, eu1, eu2⟩ := eu
    clear eu2
    rw [← eu0] at r0
    rw [← eu1] at r1
    clear eu0 eu1 HI hRx
    have l1 : Later w w1 := Below.trans L0 (o1.below (by omega) (by omega))
    have hb1 := hbxb.only o1 (by omega)
    have s1 := o1.size
    obtain ⟨M, hM⟩ := hidx w1.heap.size
    obtain ⟨w2, hw2⟩ := hidx (w1.alloc (.cells #[.slice a1 n1 c1, .slice a2 n2 c2, .int .i64 zm] 32))
    have l2 : Later w1 w2 := by rw [hw2.out]; exact later1 _ _
    have hmb : Bxx w2 M [.slice a1 n1 c1, .slice a2 n2 c2, .int .i64 zm] := by rw [hw2.out, hM.out]; exact Bxx.new _ _ _
    have hb2 := hb1.later l2
    have hO2 := hO.later l2
    have hMR : wb.heap.size ≤ M := by rw [hM.out]; exact s1
    have L2 := l1.trans l2
    have HIB0 := fun h => ibytes_no m _ _ w2 (RdL.later l2 r0) (RdL.later l2 r1) hsz h
    have HIB1 := fun h hr => ibytes_any m _ _ w2 (RdL.later l2 r0) (RdL.later l2 r1) hsz h hr
    rw [← hz] at HIB0 HIB1
    have hHz : Hid (zm = m.main ∧ n1 = m.structs.length ∧ n2 = m.codes.length) := ⟨hz, hn1, hn2⟩
    have m0 := (hmb.cell 0 _ rfl).1
    have m1 := (hmb.cell 1 _ rfl).1
    have m2 := (hmb.cell 2 _ rfl).1
    have ml := hmb.lt
    clear hz hn1 hn2 r0 r1 hO hb1 hbxb hbx
    go_wp2_with fail
    rw [← hM.out, ← hw2.out]
    go_wp2_with fail
    cases hB : imB m with
    | false =>
      have HN := HNo2.out (by rw [hB]; simp)
      refine (HIB0 hB).mono ?_
      rintro e w3 ⟨rfl, l3⟩
      have hb3 := hb2.later l3
      have b0 := (hb3.cell 0 _ rfl).1
      have bf0 := (hb3.cell 0 _ rfl).2
      have b1 := (hb3.cell 1 _ rfl).1
      have bf1 := (hb3.cell 1 _ rfl).2
      have b2 := (hb3.cell 2 _ rfl).1
      have bf2 := (hb3.cell 2 _ rfl).2
      have bl := hb3.lt
      clear HIB0 HIB1 HYes HNo2 HEQ hO2 hmb
      go_wp2_with fail
      refine bodyPost_ret (v := .tuple #[.agg #[.slice none 0 0, .slice none 0 0, .int .i64 0], .bool false]) (by simp [results, Try.results10, go_sem, b0, b1, b2]) rfl (HN _ ?_)
      have LL := L2.trans l3
      repeat (first | with_reducible exact LL | refine Later.setAt ?_ (by omega) _ _)
    | true =>
      have hB0 : imB0 m = true := by unfold imB at hB; rw [Bool.and_eq_true] at hB; exact hB.1
      have hrg := imB_rg hB0 hok
      refine (HIB1 hB hrg).mono ?_
      rintro e w3 ⟨v3, rfl, hf⟩
      have hszL : (imL m).length ≤ 200000 := by unfold imB at hB; rw [Bool.and_eq_true, decide_eq_true_eq, ← imL_len] at hB; exact hB.2
      have rd3 := row_rdb hf.own (imL_by hrg) (by omega)
      have l3 := hf.lat
      have HE3 := HEQ w3 v3 (L2.trans l3) rd3
      obtain ⟨a3, p3, hv3⟩ := hf.shape
      obtain ⟨N3, hN3⟩ := hidx (imL m).length
      rw [← hN3.out] at hv3
      subst hv3
      have hb3 := hb2.later l3
      have hm3 := hmb.later l3
      have hO3 := hO2.later l3
      have LL := L2.trans l3
      have b0 := (hb3.cell 0 _ rfl).1
      have bf0 := (hb3.cell 0 _ rfl).2
      have b1 := (hb3.cell 1 _ rfl).1
      have bf1 := (hb3.cell 1 _ rfl).2
      have b2 := (hb3.cell 2 _ rfl).1
      have bf2 := (hb3.cell 2 _ rfl).2
      have bl := hb3.lt
      have m0 := (hm3.cell 0 _ rfl).1
      have m1 := (hm3.cell 1 _ rfl).1
      have m2 := (hm3.cell 2 _ rfl).1
      have ml := hm3.lt
      by_cases hq : imL m = zs
      · rw [decide_eq_true hq] at HE3
        have HZ := fun w' => HYes.out hB hq zm a1 c1 n1 a2 c2 n2 F w' hHz.out.1 hHz.out.2.1 hHz.out.2.2
        clear HIB0 HIB1 HYes HNo2 HEQ hO2 hmb hf rd3
        go_wp2_with fail
        refine HE3.mono ?_
        rintro e w4 ⟨rfl, hww⟩
        obtain rfl := hww.symm
        go_wp2_with fail
        refine bodyPost_ret (v := .tuple #[.agg #[.slice a1 n1 c1, .slice a2 n2 c2, .int .i64 zm], .bool true]) (by simp [results, Try.results10, go_sem, b0, b1, b2]) rfl (HZ _ ?_ ?_)
        · exact (((hO3.set1 (show w.heap.size < wb.heap.size by omega) 0 _).set1 (show w.heap.size < wb.heap.size by omega) 1 _).set1 (show w.heap.size < wb.heap.size by omega) 2 _).mono (by omega)
        · repeat (first | with_reducible exact LL | refine Later.setAt ?_ (by omega) _ _)
      · rw [decide_eq_false hq] at HE3
        have HN := HNo2.out (fun q => hq q.2)
        clear HIB0 HIB1 HYes HNo2 HEQ hO2 hmb hf rd3
        go_wp2_with fail
        refine HE3.mono ?_
        rintro e w4 ⟨rfl, hww⟩
        obtain rfl := hww.symm
        go_wp2_with fail
        refine bodyPost_ret (v := .tuple #[.agg #[.slice none 0 0, .slice none 0 0, .int .i64 0], .bool false]) (by simp [results, Try.results10, go_sem, b0, b1, b2]) rfl (HN _ ?_)
        repeat (first | with_reducible exact LL | refine Later.setAt ?_ (by omega) _ _)
end Go.Proofs.Ytlfkjjnhlkaipaa
