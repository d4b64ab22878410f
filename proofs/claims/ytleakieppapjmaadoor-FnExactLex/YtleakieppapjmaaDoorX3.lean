/- The program's tokens: decimals, read. -/
import Derived.Test.YtleakieppapjmaaDoorMG
import Derived.Test.YtleakieppapjmaaDoorT62
import Derived.Lib.AtoiAllCases
namespace Go.Proofs.YtleakieppapjmaaDoor
open Go.RowKit Go.Lib

theorem pu_snoc (c : UInt8) (d : Nat) (hc : 48 ≤ c.toNat ∧ c.toNat ≤ 57) (hd : d = c.toNat - 48) : ∀ (l : List UInt8) (acc a : Nat), parseUint10 acc l = .ok a → a < 1844674407370955162 → a * 10 + d < 18446744073709551616 → parseUint10 acc (l ++ [c]) = .ok (a * 10 + d)
  | [], acc, a, h, h1, h2 => by
    rw [parseUint10] at h
    cases h
    rw [List.nil_append, parseUint10, if_pos hc, if_neg (by omega), if_neg (by omega), parseUint10, hd]
  | b :: r, acc, a, h, h1, h2 => by
    rw [parseUint10] at h
    rw [List.cons_append, parseUint10]
    split at h
    · rename_i q
      rw [if_pos q]
      split at h
      · cases h
      · rename_i q2
        rw [if_neg q2]
        split at h
        · cases h
        · rename_i q3
          rw [if_neg q3]
          exact pu_snoc c d hc hd r _ a h h1 h2
    · cases h
theorem pu_dec (u : Nat) : u < 18446744073709551616 → parseUint10 0 (decDigits u) = .ok u := by
  induction u using Nat.strongRecOn with
  | _ u ih =>
  intro hu
  rw [decDigits]
  by_cases h : u < 10
  · rw [dif_pos h]
    have e : (UInt8.ofNat (48 + u)).toNat = 48 + u := by rw [UInt8.toNat_ofNat']; omega
    have := pu_snoc (UInt8.ofNat (48 + u)) u (by rw [e]; omega) (by rw [e]; omega) [] 0 0 rfl (by decide) (by omega)
    rw [List.nil_append] at this
    rw [this]
    congr 1
    omega
  · rw [dif_neg h]
    have e : (UInt8.ofNat (48 + u % 10)).toNat = 48 + u % 10 := by rw [UInt8.toNat_ofNat']; omega
    rw [pu_snoc (UInt8.ofNat (48 + u % 10)) (u % 10) (by rw [e]; omega) (by rw [e]; omega) _ 0 (u / 10) (ih (u / 10) (by omega) (by omega)) (by omega) (by omega)]
    congr 1
    omega
theorem dec_head (u : Nat) : ∃ c r, decDigits u = c :: r ∧ 48 ≤ c.toNat ∧ c.toNat ≤ 57 := by
  induction u using Nat.strongRecOn with
  | _ u ih =>
  rw [decDigits]
  by_cases h : u < 10
  · rw [dif_pos h]
    have e : (UInt8.ofNat (48 + u)).toNat = 48 + u := by rw [UInt8.toNat_ofNat']; omega
    exact ⟨_, [], rfl, by rw [e]; omega, by rw [e]; omega⟩
  · rw [dif_neg h]
    obtain ⟨c, r, e, h1, h2⟩ := ih (u / 10) (by omega)
    rw [e]
    exact ⟨c, r ++ [_], rfl, h1, h2⟩
theorem mag_dec (u : Nat) (hu : u < 18446744073709551616) : parseMag (decDigits u) = .ok u := by
  unfold parseMag
  obtain ⟨c, r, e, _⟩ := dec_head u
  rw [if_neg (by rw [e]; simp)]
  exact pu_dec u hu
theorem atoi_itoa {n : Int} (hn : InR n) : atoiAll (itoa n) = .ok n := by
  unfold InR at hn
  unfold itoa
  by_cases h : n < 0
  · rw [if_pos h, atoiAll_minus, mag_dec _ (by omega)]
    unfold signed
    simp only
    rw [if_neg (by omega)]
    congr 1
    omega
  · rw [if_neg h]
    obtain ⟨c, r, e, h1, h2⟩ := dec_head n.toNat
    rw [e, atoiAll_plain c r (by omega) (by omega), ← e, mag_dec _ (by omega)]
    unfold signless
    simp only
    rw [if_neg (by omega)]
    congr 1
    omega
theorem str_of_bytes (s : ByteArray) : s = strOfNums (bytesOf s) := by
  obtain ⟨d⟩ := s
  unfold strOfNums bytesOf
  congr 1
  rw [List.map_map]
  have : ((fun n : Int => UInt8.ofNat n.toNat) ∘ fun b : UInt8 => (b.toNat : Int)) = id := by
    funext b
    show UInt8.ofNat ((b.toNat : Int)).toNat = b
    rw [Int.toNat_natCast]
    exact UInt8.ofNat_toNat
  rw [this, List.map_id]
theorem itoa_nums {n : Int} (hn : InR n) : (strOfNums (decL n)).data.toList = itoa n := by
  have := str_of_bytes ⟨(itoa n).toArray⟩
  rw [bytes_itoa n hn] at this
  rw [← this]
/-- What the road takes from the library's variables. -/
structure LEnv (W : World) : Prop where
  tab : TabIs Tryd.prog W "internal/strconv.uint64pow10" .u64 pow10Tab
  big : 6 < W.heap.size
  deb : W.cell? ⟨6, 15, none⟩ = some (.int .u8 4)
  syn : ∃ tp p, W.cell? ⟨0, 0, none⟩ = some (.iface tp p)
  ran : ∃ tp p, W.cell? ⟨1, 0, none⟩ = some (.iface tp p)
  syb : 0 < W.heap.size
  rab : 1 < W.heap.size
theorem LEnv.later {W w : World} (h : LEnv W) (hw : Later W w) : LEnv w where
  tab := tabBelow_of_tabIs h.tab w hw
  big := Nat.lt_of_lt_of_le h.big hw.size
  deb := by rw [hw.cell (p := ⟨6, 15, none⟩) h.big]; exact h.deb
  syn := by obtain ⟨tp, p, h1⟩ := h.syn; exact ⟨tp, p, by rw [hw.cell (p := ⟨0, 0, none⟩) h.syb]; exact h1⟩
  ran := by obtain ⟨tp, p, h1⟩ := h.ran; exact ⟨tp, p, by rw [hw.cell (p := ⟨1, 0, none⟩) h.rab]; exact h1⟩
  syb := Nat.lt_of_lt_of_le h.syb hw.size
  rab := Nat.lt_of_lt_of_le h.rab hw.size
theorem ito_str {w : World} (hE : LEnv w) {n : Int} (hn : InR n) : Calls Tryd.prog 38 #[.int .i64 n] w fun e w' => e = .returned (.string (strOfNums (decL n))) ∧ Later w w' := by
  refine (ito_any _ rfl n w hn hE.tab).mono ?_
  rintro e w' ⟨s, rfl, hs, l⟩
  exact ⟨by rw [str_of_bytes s, hs], l⟩
theorem bytesWorld_later (w : World) (e : TypeId) (s : ByteArray) : Later w (bytesWorld w e s) := bytesWorld_below w e s
set_option maxRecDepth 20000 in
set_option maxHeartbeats 1000000 in
theorem rint_any (zs : List Int) (hz : ∀ j, isB (zs.getD j 0)) (hl : zs.length ≤ 6000) (w : World) (hE : LEnv w) : Calls Tryd.prog 28 #[.string (strOfNums zs)] w (KL.IntP zs w) := by
  have hsz : (strOfNums zs).size ≤ 6000 := by rw [strOfNums_size]; exact hl
  have hdec : ∀ m, InR m → zs = decL m → atoiAll (strOfNums zs).data.toList = .ok m := fun m hm e => by rw [e, itoa_nums hm]; exact atoi_itoa hm
  have hdB : ∀ m, InR m → ∀ j, isB ((decL m).getD j 0) := fun m _ => KL.decL_isB m
  cases h : atoiAll (strOfNums zs).data.toList with
  | ok v =>
    have hv : InR v := atoiAll_bounds h
    have hA := Tryd.strconv_Atoi_ok (strOfNums zs) (by omega) v h w
    have hI := fun w' (l : Later w w') => ito_str (hE.later l) hv
    have hcmp := str_inj (hdB v hv) hz
    by_cases he : decL v = zs
    · have HB : Hid (∀ w', Later w w' → KL.IntP zs w (.returned (.tuple #[.int .i64 v, .bool true])) w') := fun w' l => ⟨v, true, rfl, by rw [if_pos rfl, ← he]; exact KL.intOfL_dec hv, l⟩
      rw [decide_eq_true he] at hcmp
      generalize hQ : KL.IntP zs w = Q at *
      generalize strOfNums zs = SZ at *
      generalize strOfNums (decL v) = SV at *
      have hcmp2 : (SV.toList != SZ.toList) = false := by unfold bne; rw [hcmp]; rfl
      clear hQ hdec hdB h hE
      go_enter Tryd.func28, Tryd.ntmps28
      go_wp2_with fail
      refine hA.mono ?_
      rintro e w1 ⟨rfl, hw1⟩
      have l1 : Later w w1 := by
        rcases hw1 with rfl | ⟨t, rfl⟩
        · exact Later.refl _
        · exact bytesWorld_later _ _ _
      clear hw1
      go_wp2_with fail
      refine (hI _ l1).mono ?_
      rintro e w2 ⟨rfl, l2⟩
      have HC := HB.out w2 (l1.trans l2)
      clear HB
      go_wp2_with fail
      exact HC
    · have HB : Hid (∀ w', Later w w' → KL.IntP zs w (.returned (.tuple #[.int .i64 0, .bool false])) w') := fun w' l => ⟨0, false, rfl, by
        rw [if_neg (by decide)]
        exact KL.intOfL_none (fun m hm e => by
          have := hdec m hm e
          rw [h] at this
          cases this
          exact he e.symm), l⟩
      rw [decide_eq_false he] at hcmp
      generalize hQ : KL.IntP zs w = Q at *
      generalize strOfNums zs = SZ at *
      generalize strOfNums (decL v) = SV at *
      have hcmp2 : (SV.toList != SZ.toList) = true := by unfold bne; rw [hcmp]; rfl
      clear hQ hdec hdB h hE
      go_enter Tryd.func28, Tryd.ntmps28
      go_wp2_with fail
      refine hA.mono ?_
      rintro e w1 ⟨rfl, hw1⟩
      have l1 : Later w w1 := by
        rcases hw1 with rfl | ⟨t, rfl⟩
        · exact Later.refl _
        · exact bytesWorld_later _ _ _
      clear hw1
      go_wp2_with fail
      refine (hI _ l1).mono ?_
      rintro e w2 ⟨rfl, l2⟩
      have HC := HB.out w2 (l1.trans l2)
      clear HB
      go_wp2_with fail
      exact HC
  | «syntax» =>
    have HB : Hid (∀ w', Later w w' → KL.IntP zs w (.returned (.tuple #[.int .i64 0, .bool false])) w') := fun w' l => ⟨0, false, rfl, by
      rw [if_neg (by decide)]
      exact KL.intOfL_none (fun m hm e => by
        have := hdec m hm e
        rw [h] at this
        cases this), l⟩
    obtain ⟨tp, p, hs⟩ := hE.syn
    have hA := Tryd.strconv_Atoi_syntax (strOfNums zs) (by omega) h _ w hs (.inr ⟨_, _, rfl⟩)
    generalize hQ : KL.IntP zs w = Q at *
    generalize strOfNums zs = SZ at *
    clear hQ hdec hdB h hE hs
    go_enter Tryd.func28, Tryd.ntmps28
    go_wp2_with fail
    refine hA.mono ?_
    rintro e w1 ⟨N, rfl, _, _, l1⟩
    have HC := HB.out w1 l1
    clear HB
    go_wp2_with fail
    exact HC
  | range =>
    have HB : Hid (∀ w', Later w w' → KL.IntP zs w (.returned (.tuple #[.int .i64 0, .bool false])) w') := fun w' l => ⟨0, false, rfl, by
      rw [if_neg (by decide)]
      exact KL.intOfL_none (fun m hm e => by
        have := hdec m hm e
        rw [h] at this
        cases this), l⟩
    obtain ⟨tp, p, hs⟩ := hE.ran
    have hA := Tryd.strconv_Atoi_range (strOfNums zs) (by omega) h _ w hs (.inr ⟨_, _, rfl⟩)
    generalize hQ : KL.IntP zs w = Q at *
    generalize strOfNums zs = SZ at *
    clear hQ hdec hdB h hE hs
    go_enter Tryd.func28, Tryd.ntmps28
    go_wp2_with fail
    refine hA.mono ?_
    rintro e w1 ⟨N, rfl, _, _, l1⟩
    have HC := HB.out w1 l1
    clear HB
    go_wp2_with fail
    exact HC
end Go.Proofs.YtleakieppapjmaaDoor
