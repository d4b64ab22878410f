/- What a piece is as an int: the walk of l3int. -/
import Derived.Test.YtleakieppapjmaaDoorK7
namespace Go.Proofs.YtleakieppapjmaaDoor.KL
open Go.RowKit

theorem wrap_sub {z : Int} (h : 48 ≤ z) (h' : z ≤ 57) : IntKind.u8.wrap (z - 48) = z - 48 := wrap8 (by omega) (by omega)
theorem wrap_up {z : Int} (h : 48 ≤ z) (h' : z ≤ 57) : IntKind.u64.wrap (z - 48) = z - 48 := by rw [IntKind.wrap_u64]; omega
/-- Digits from a place on. -/
def digFrom (k : Nat) (zs : List Int) (i : Nat) : Prop := ∀ j, k ≤ j → j < i → 48 ≤ zs.getD j 0 ∧ zs.getD j 0 ≤ 57
theorem conv_str {w : World} {v : Value} {zs : List Int} (h : RdB w v zs) : ∀ w', Later w w' → (convert 22 9 v).run Tryd.prog w' = .ok (.string (strOfNums zs)) w' := by
  intro w' hl
  obtain ⟨a, cap, rfl, _, _, hc⟩ := h.later hl
  rcases Nat.eq_zero_or_pos zs.length with h0 | h0
  · have : zs = [] := List.eq_nil_of_length_eq_zero h0
    subst this
    cases a with
    | none => exact run_convert_bytes_nil w' 22 5 Tryd.underlying22 Tryd.underlying5 0 cap 9 Tryd.underlying9
    | some x =>
      obtain ⟨b, off, sp⟩ := x
      rw [run_convert_bytes_string w' 22 9 5 _ _ cap Tryd.underlying22 Tryd.underlying5 Tryd.underlying9, run_bytesToString w' _ _ cap [] (by simpa using run_loadCells_list (P := Tryd.prog) w' ⟨b, off, sp⟩ [] (fun j v h => by simp at h))]
      rfl
  · obtain ⟨g, off, rfl, _, _⟩ := hc 0 h0
    refine run_convert_bytes_arg w' 22 5 Tryd.underlying22 Tryd.underlying5 g off zs.length cap zs rfl (fun i hi => ?_) 9 Tryd.underlying9
    obtain ⟨_, _, he, _, hv⟩ := hc i hi
    cases he
    exact hv
theorem own_rdb' {w : World} {base : Nat} {v : Value} {zs : List Int} (h : w.ownsRow base 5 1 v zs.length (zs.map (Value.int .u8))) (hs : zs.length ≤ 1048576) (hz : ∀ j, isB (zs.getD j 0)) : RdB w v zs := by
  rcases h.2 with ⟨rfl, h0⟩ | ⟨g, cap, _, rfl, _⟩
  · have : zs = [] := List.eq_nil_of_length_eq_zero h0
    subst this
    exact RdB.nil w
  · exact own_rdb h rfl hs hz
theorem decL_isB (n : Int) : ∀ j, isB ((decL n).getD j 0) := by
  have h : ∀ z ∈ decL n, isB z := by
    unfold decL isB
    split
    · intro z hz
      rcases List.mem_cons.1 hz with rfl | hz
      · omega
      · have := digF_dig _ _ z hz; omega
    · intro z hz
      have := digF_dig _ _ z hz; omega
  intro j
  rw [List.getD_eq_getElem?_getD]
  rcases Nat.lt_or_ge j (decL n).length with hj | hj
  · rw [List.getElem?_eq_getElem hj]; exact h _ (List.getElem_mem _)
  · rw [List.getElem?_eq_none hj]; exact ⟨by simp, by simp⟩
theorem no_dec_empty {m : Int} (_ : InR m) : ([] : List Int) ≠ decL m := by
  intro e
  have := congrArg List.length e
  by_cases hn : m < 0
  · rw [decL_neg hn] at this; simp at this
  · rw [decL_nonneg hn] at this
    have hp : 0 < (digF 20 m.toNat).length := digF_pos 19 m.toNat
    rw [← this] at hp
    simp at hp
/-- A decimal's digits. -/
theorem dec_digits {m : Int} {zs : List Int} (e : zs = decL m) {k : Nat} (hk : k = if zs.head? = some 45 then 1 else 0) : digFrom k zs zs.length ∧ k < zs.length := by
  subst e
  by_cases hn : m < 0
  · rw [decL_neg hn] at hk ⊢
    rw [if_pos (show (45 :: digF 20 (-m).toNat).head? = some 45 from rfl)] at hk
    subst hk
    have hp : 0 < (digF 20 (-m).toNat).length := digF_pos 19 _
    refine ⟨fun j h1 h2 => ?_, by simpa using hp⟩
    match j, h1 with
    | j + 1, _ =>
      rw [List.getD_cons_succ, List.getD_eq_getElem?_getD, List.getElem?_eq_getElem (by simpa using h2)]
      exact digF_dig _ _ _ (List.getElem_mem _)
  · rw [decL_nonneg hn] at hk ⊢
    have hp : 0 < (digF 20 m.toNat).length := digF_pos 19 _
    have hd := digF_dig 20 m.toNat
    rw [if_neg (fun hh => by have := hd 45 (List.mem_of_mem_head? hh); omega)] at hk
    subst hk
    refine ⟨fun j _ h2 => ?_, hp⟩
    rw [List.getD_eq_getElem?_getD, List.getElem?_eq_getElem h2]
    exact hd _ (List.getElem_mem _)
set_option maxRecDepth 20000 in
/-- What the number is when all are digits. -/
theorem dec_value {m : Int} (h : InR m) {zs : List Int} (e : zs = decL m) : (zs.head? = some 45 → IntKind.i64.wrap (IntKind.u64.wrap (-(evU (zs.drop 1)))) = m) ∧ (zs.head? ≠ some 45 → IntKind.i64.wrap (evU zs) = m) := by
  unfold InR at h
  subst e
  by_cases hn : m < 0
  · rw [decL_neg hn]
    refine ⟨fun _ => ?_, fun hh => absurd rfl hh⟩
    rw [List.drop_succ_cons, List.drop_zero, evU_eq, evN_digF 20 _ (by omega) (by decide), IntKind.wrap_u64, IntKind.wrap_i64]
    omega
  · rw [decL_nonneg hn]
    have hd := digF_dig 20 m.toNat
    refine ⟨fun hh => ?_, fun _ => ?_⟩
    · have := hd 45 (List.mem_of_mem_head? hh); omega
    · rw [evU_eq, evN_digF 20 _ (by omega) (by decide), IntKind.wrap_i64]
      omega
theorem take_drop_succ {zs : List Int} {k i : Nat} (hk : k ≤ i) (hi : i < zs.length) : (zs.take (i + 1)).drop k = (zs.take i).drop k ++ [zs.getD i 0] := by
  rw [List.take_succ_eq_append_getElem hi, List.drop_append_of_le_length (by simp; omega), List.getD_eq_getElem?_getD, List.getElem?_eq_getElem hi]
  rfl
theorem wrap_inR (n : Int) : InR (IntKind.i64.wrap n) := by rw [IntKind.wrap_i64]; unfold InR; omega

theorem w64 (n : Int) : IntKind.i64.wrap n = wrap64 n := by rw [IntKind.wrap_i64]; unfold wrap64; rfl
theorem head_of {zs : List Int} (h : 0 < zs.length) : zs.head? = some (zs.getD 0 0) := by
  cases zs with
  | nil => cases h
  | cons z r => rfl
theorem head_yes {zs : List Int} (h : 0 < zs.length) (e : zs.head? = some 45) : (zs.getD 0 0 == 45) = true := by
  rw [head_of h, Option.some.injEq] at e; rw [e]; rfl
theorem head_no {zs : List Int} (h : 0 < zs.length) (e : zs.head? ≠ some 45) : (zs.getD 0 0 == 45) = false := by
  rw [head_of h] at e
  rw [beq_eq_false_iff_ne]
  exact fun e' => e (by rw [e'])
theorem ev_start (zs : List Int) (k : Nat) : evU ((zs.take k).drop k) = 0 := by
  rw [List.drop_eq_nil_of_le (by rw [List.length_take]; omega)]
  rfl

/-- What l3int answers. -/
def IntP (zs : List Int) (w : World) (e : Ending) (w' : World) : Prop := ∃ n b, e = .returned (.tuple #[.int .i64 n, .bool b]) ∧ intOfL zs = (if b then some n else none) ∧ Later w w'
theorem IntP.no {zs : List Int} {w w' : World} {e : Ending} {n : Int} (h : e = .returned (.tuple #[.int .i64 n, .bool false])) (h2 : intOfL zs = none) (h3 : Later w w') : IntP zs w e w' := ⟨n, false, h, h2, h3⟩

set_option maxRecDepth 20000 in
set_option maxHeartbeats 2000000 in
theorem int_0 (v : Value) (zs : List Int) (w : World) (h : RdB w v zs) (hs : zs.length ≤ 1048576) (hpos : 0 < zs.length) (hhead : zs.head? ≠ some 45) :
    Calls Tryd.prog 14 #[v] w fun e w' => IntP zs w e w' := by
  obtain ⟨a, cap, rfl, hl, hz, hc⟩ := id h
  have hk : 0 = if zs.head? = some 45 then 1 else 0 := by rw [if_neg hhead]
  have hconv := conv_str h
  have hval := fun m (hm : InR m) (e : zs = decL m) => (dec_value hm e).2 hhead
  obtain ⟨g, off, rfl, _, hv0⟩ := hc 0 hpos
  have hp0 : (0 : Int) < (zs.length : Int) := by omega
  have h45 : (zs.getD 0 0 == 45) = false := head_no hpos hhead
  rw [Nat.add_zero] at hv0
  generalize zs.getD 0 0 = z0 at hv0 h45
  have hz45 : ¬ z0 = 45 := by simpa using h45
  by_cases hk1 : zs.length = 0
  · omega
  have hk1' : ((zs.length : Int) == 0) = false := by rw [beq_eq_false_iff_ne]; omega
  have hk2' : ¬ (zs.length : Int) = 0 := by omega
  by_cases h20 : 20 < zs.length
  · have e : intOfL zs = none := intOfL_none (fun m hm e => by have := (decL_short hm).1; rw [← e] at this; omega)
    have h20' : (20 : Int) < (zs.length : Int) := by omega
    replace e : Hid (intOfL zs = none) := e
    clear hc hk hval hconv h
    go_enter Tryd.func14, Tryd.ntmps14
    go_wp2_with fail
    go_ret2
    exact IntP.no rfl e.out (Later.refl _)
  have h20' : ¬ (20 : Int) < (zs.length : Int) := by omega
  have HN : Hid (∀ i, 0 ≤ i → i < zs.length → ¬ (48 ≤ zs.getD i 0 ∧ zs.getD i 0 ≤ 57) → intOfL zs = none) := fun i hi1 hi2 hd => intOfL_none (fun m hm e => hd ((dec_digits e hk).1 i hi1 hi2))
  have HV : Hid (∀ m, InR m → zs = decL m → IntKind.i64.wrap (evU zs) = m) := hval
  clear hk hval
  go_enter Tryd.func14, Tryd.ntmps14
  go_wp2_with fail
  go_loop [5, 6] (fun u i => ∃ k : Nat, u = .int .u64 (evU ((zs.take k).drop 0)) ∧ i = .int .i64 (k : Int) ∧ 0 ≤ k ∧ k ≤ zs.length) (fun _ i => zs.length - (intOf i).toNat)
  case atStart => exact ⟨0, by rw [ev_start], rfl, Nat.le_refl _, by omega⟩
  case round =>
    obtain ⟨k, rfl, rfl, hk0, hk⟩ := hrel
    by_cases hlt : k < zs.length
    · obtain ⟨_, _, he, _, hv⟩ := hc k hlt
      cases he
      have i1 : (k : Int) < (zs.length : Int) := by omega
      have HN' : Hid (¬ (48 ≤ zs.getD k 0 ∧ zs.getD k 0 ≤ 57) → intOfL zs = none) := HN.out k hk0 hlt
      have hsn := take_drop_succ hk0 hlt
      have hzk := hz k
      unfold isB at hzk
      generalize zs.getD k 0 = z at *
      by_cases hd1 : z < 48
      · clear hc HN HV hconv hsn
        go_wp2_with fail
        go_ret2
        exact IntP.no rfl (HN'.out (by omega)) (Later.refl _)
      by_cases hd2 : 57 < z
      · clear hc HN HV hconv hsn
        go_wp2_with fail
        go_ret2
        exact IntP.no rfl (HN'.out (by omega)) (Later.refl _)
      have w1 := wrap_sub (z := z) (by omega) (by omega)
      have w2 := wrap_up (z := z) (by omega) (by omega)
      have w3 := evU_snoc ((zs.take k).drop 0) z
      rw [← hsn] at w3
      have W3 : Hid (evU ((zs.take (k + 1)).drop 0) = IntKind.u64.wrap (IntKind.u64.wrap (evU ((zs.take k).drop 0) * 10) + (z - 48))) := w3
      generalize evU ((zs.take k).drop 0) = U at *
      clear hc HN HV hconv hsn w3 HN'
      go_wp2_with fail
      go_round
      case rel => exact ⟨k + 1, by rw [W3.out], by go_num, by omega, by omega⟩
      case measure => simp [intOf]; omega
    · have i1 : ¬ (k : Int) < (zs.length : Int) := by omega
      have i2 : decide ((k : Int) < (zs.length : Int)) = false := decide_eq_false i1
      have hkk : k = zs.length := by omega
      subst hkk
      rw [List.take_length] at *
      have hdec := fun w' => dec_any (IntKind.i64.wrap (evU zs)) w' (wrap_inR _)
      have HF : Hid (∀ e w', e = .returned (.tuple #[.int .i64 (IntKind.i64.wrap (evU zs)), .bool ((strOfNums (decL (IntKind.i64.wrap (evU zs)))).toList == (strOfNums zs).toList)]) → Later w w' → IntP zs w e w') := fun e w' he hl => by
        rw [str_inj (decL_isB _) hz] at he
        by_cases hd : decL (IntKind.i64.wrap (evU zs)) = zs
        · rw [decide_eq_true hd] at he
          exact ⟨_, true, he, by rw [← hd, hd]; exact (by have := intOfL_dec (wrap_inR (evU zs)); rw [hd] at this; exact this), hl⟩
        · rw [decide_eq_false hd] at he
          exact IntP.no he (intOfL_none (fun m hm e => hd (by rw [HV.out m hm e]; exact e.symm))) hl
      have hB := decL_isB (IntKind.i64.wrap (evU zs))
      have hS := (decL_short (wrap_inR (evU zs))).1
      have hD := hconv w.drew (Later.drew _)
      obtain ⟨N, hN⟩ : ∃ N, wrap64 (evU zs) = N := ⟨_, rfl⟩
      have hN' : IntKind.i64.wrap (evU zs) = N := by rw [w64, hN]
      rw [hN'] at hdec HF hB hS
      clear hN'
      generalize strOfNums zs = SZ at *
      clear hc HN HV
      go_wp2_with fail
      go_region_with (go_at_call 21; refine (hdec _).mono ?_; rintro e w1 ⟨v1, rfl, o1, l1⟩; have hd1 := conv_str (own_rdb' o1 (by omega) hB) w1 (Later.refl _); have hw1 := hconv w1 ((Later.drew _).trans l1))
      all_goals
        go_wp2_with fail
        go_ret2
        exact HF.out _ _ rfl ((Later.drew _).trans l1)

set_option maxRecDepth 20000 in
set_option maxHeartbeats 2000000 in
theorem int_1 (v : Value) (zs : List Int) (w : World) (h : RdB w v zs) (hs : zs.length ≤ 1048576) (hpos : 0 < zs.length) (hhead : zs.head? = some 45) :
    Calls Tryd.prog 14 #[v] w fun e w' => IntP zs w e w' := by
  obtain ⟨a, cap, rfl, hl, hz, hc⟩ := id h
  have hk : 1 = if zs.head? = some 45 then 1 else 0 := by rw [if_pos hhead]
  have hconv := conv_str h
  have hval := fun m (hm : InR m) (e : zs = decL m) => (dec_value hm e).1 hhead
  obtain ⟨g, off, rfl, _, hv0⟩ := hc 0 hpos
  have hp0 : (0 : Int) < (zs.length : Int) := by omega
  have h45 : (zs.getD 0 0 == 45) = true := head_yes hpos hhead
  rw [Nat.add_zero] at hv0
  generalize zs.getD 0 0 = z0 at hv0 h45
  have hz45 : z0 = 45 := by simpa using h45
  subst hz45
  by_cases hk1 : zs.length = 1
  · have e : intOfL zs = none := intOfL_none (fun m hm e => by have := (dec_digits e hk).2; omega)
    have hk1' : ((zs.length : Int) == 1) = true := by simp; omega
    have hk2' : (zs.length : Int) = 1 := by omega
    replace e : Hid (intOfL zs = none) := e
    clear hc hk hval hconv h
    go_enter Tryd.func14, Tryd.ntmps14
    go_wp2_with fail
    go_ret2
    exact IntP.no rfl e.out (Later.refl _)
  have hk1' : ((zs.length : Int) == 1) = false := by rw [beq_eq_false_iff_ne]; omega
  have hk2' : ¬ (zs.length : Int) = 1 := by omega
  by_cases h20 : 20 < zs.length
  · have e : intOfL zs = none := intOfL_none (fun m hm e => by have := (decL_short hm).1; rw [← e] at this; omega)
    have h20' : (20 : Int) < (zs.length : Int) := by omega
    replace e : Hid (intOfL zs = none) := e
    clear hc hk hval hconv h
    go_enter Tryd.func14, Tryd.ntmps14
    go_wp2_with fail
    go_ret2
    exact IntP.no rfl e.out (Later.refl _)
  have h20' : ¬ (20 : Int) < (zs.length : Int) := by omega
  have HN : Hid (∀ i, 1 ≤ i → i < zs.length → ¬ (48 ≤ zs.getD i 0 ∧ zs.getD i 0 ≤ 57) → intOfL zs = none) := fun i hi1 hi2 hd => intOfL_none (fun m hm e => hd ((dec_digits e hk).1 i hi1 hi2))
  have HV : Hid (∀ m, InR m → zs = decL m → IntKind.i64.wrap (IntKind.u64.wrap (-(evU (zs.drop 1)))) = m) := hval
  clear hk hval
  go_enter Tryd.func14, Tryd.ntmps14
  go_wp2_with fail
  go_loop [5, 6] (fun u i => ∃ k : Nat, u = .int .u64 (evU ((zs.take k).drop 1)) ∧ i = .int .i64 (k : Int) ∧ 1 ≤ k ∧ k ≤ zs.length) (fun _ i => zs.length - (intOf i).toNat)
  case atStart => exact ⟨1, by rw [ev_start], rfl, Nat.le_refl _, by omega⟩
  case round =>
    obtain ⟨k, rfl, rfl, hk0, hk⟩ := hrel
    by_cases hlt : k < zs.length
    · obtain ⟨_, _, he, _, hv⟩ := hc k hlt
      cases he
      have i1 : (k : Int) < (zs.length : Int) := by omega
      have HN' : Hid (¬ (48 ≤ zs.getD k 0 ∧ zs.getD k 0 ≤ 57) → intOfL zs = none) := HN.out k hk0 hlt
      have hsn := take_drop_succ hk0 hlt
      have hzk := hz k
      unfold isB at hzk
      generalize zs.getD k 0 = z at *
      by_cases hd1 : z < 48
      · clear hc HN HV hconv hsn
        go_wp2_with fail
        go_ret2
        exact IntP.no rfl (HN'.out (by omega)) (Later.refl _)
      by_cases hd2 : 57 < z
      · clear hc HN HV hconv hsn
        go_wp2_with fail
        go_ret2
        exact IntP.no rfl (HN'.out (by omega)) (Later.refl _)
      have w1 := wrap_sub (z := z) (by omega) (by omega)
      have w2 := wrap_up (z := z) (by omega) (by omega)
      have w3 := evU_snoc ((zs.take k).drop 1) z
      rw [← hsn] at w3
      have W3 : Hid (evU ((zs.take (k + 1)).drop 1) = IntKind.u64.wrap (IntKind.u64.wrap (evU ((zs.take k).drop 1) * 10) + (z - 48))) := w3
      generalize evU ((zs.take k).drop 1) = U at *
      clear hc HN HV hconv hsn w3 HN'
      go_wp2_with fail
      go_round
      case rel => exact ⟨k + 1, by rw [W3.out], by go_num, by omega, by omega⟩
      case measure => simp [intOf]; omega
    · have i1 : ¬ (k : Int) < (zs.length : Int) := by omega
      have i2 : decide ((k : Int) < (zs.length : Int)) = false := decide_eq_false i1
      have hkk : k = zs.length := by omega
      subst hkk
      rw [List.take_length] at *
      have hdec := fun w' => dec_any (IntKind.i64.wrap (IntKind.u64.wrap (-(evU (zs.drop 1))))) w' (wrap_inR _)
      have HF : Hid (∀ e w', e = .returned (.tuple #[.int .i64 (IntKind.i64.wrap (IntKind.u64.wrap (-(evU (zs.drop 1))))), .bool ((strOfNums (decL (IntKind.i64.wrap (IntKind.u64.wrap (-(evU (zs.drop 1))))))).toList == (strOfNums zs).toList)]) → Later w w' → IntP zs w e w') := fun e w' he hl => by
        rw [str_inj (decL_isB _) hz] at he
        by_cases hd : decL (IntKind.i64.wrap (IntKind.u64.wrap (-(evU (zs.drop 1))))) = zs
        · rw [decide_eq_true hd] at he
          exact ⟨_, true, he, by rw [← hd, hd]; exact (by have := intOfL_dec (wrap_inR (IntKind.u64.wrap (-(evU (zs.drop 1))))); rw [hd] at this; exact this), hl⟩
        · rw [decide_eq_false hd] at he
          exact IntP.no he (intOfL_none (fun m hm e => hd (by rw [HV.out m hm e]; exact e.symm))) hl
      have hB := decL_isB (IntKind.i64.wrap (IntKind.u64.wrap (-(evU (zs.drop 1)))))
      have hS := (decL_short (wrap_inR (IntKind.u64.wrap (-(evU (zs.drop 1)))))).1
      have hD := hconv w.drew (Later.drew _)
      obtain ⟨N, hN⟩ : ∃ N, wrap64 (IntKind.u64.wrap (-(evU zs.tail))) = N := ⟨_, rfl⟩
      have hN' : IntKind.i64.wrap (IntKind.u64.wrap (-(evU (zs.drop 1)))) = N := by rw [w64, List.drop_one, hN]
      rw [hN'] at hdec HF hB hS
      clear hN'
      generalize strOfNums zs = SZ at *
      clear hc HN HV
      go_wp2_with fail
      go_region_with (go_at_call 21; refine (hdec _).mono ?_; rintro e w1 ⟨v1, rfl, o1, l1⟩; have hd1 := conv_str (own_rdb' o1 (by omega) hB) w1 (Later.refl _); have hw1 := hconv w1 ((Later.drew _).trans l1))
      all_goals
        go_wp2_with fail
        go_ret2
        exact HF.out _ _ rfl ((Later.drew _).trans l1)

theorem int_any (v : Value) (zs : List Int) (w : World) (h : RdB w v zs) (hs : zs.length ≤ 1048576) (hpos : 0 < zs.length) : Calls Tryd.prog 14 #[v] w fun e w' => IntP zs w e w' := by
  by_cases hh : zs.head? = some 45
  · exact int_1 v zs w h hs hpos hh
  · exact int_0 v zs w h hs hpos hh

end Go.Proofs.YtleakieppapjmaaDoor.KL
