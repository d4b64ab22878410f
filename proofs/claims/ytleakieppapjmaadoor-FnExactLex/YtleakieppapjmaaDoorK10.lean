/- What a piece is as a float's bits: the walk of l3float. -/
import Derived.Test.YtleakieppapjmaaDoorK9
import Derived.Laws.Bits64b
namespace Go.Proofs.YtleakieppapjmaaDoor.KL
open Go.RowKit

theorem flo_none {zs : List Int} (h : ¬ (zs.length = 18 ∧ zs.getD 0 0 = 48 ∧ zs.getD 1 0 = 102 ∧ ∀ j, 2 ≤ j → j < 18 → hexB (zs.getD j 0) = true)) : floatOfL zs = none := by
  unfold floatOfL
  refine if_neg (fun hc => h ?_)
  simp only [Bool.and_eq_true, decide_eq_true_eq, beq_iff_eq, List.all_eq_true] at hc
  obtain ⟨⟨⟨⟨h1, h2⟩, h3⟩, h4⟩, _⟩ := hc
  refine ⟨h1, h2, h3, fun j hj hj' => h4 _ ?_⟩
  rw [List.getD_eq_getElem?_getD, List.getElem?_eq_getElem (by omega)]
  refine List.mem_iff_getElem.2 ⟨j - 2, by simp; omega, ?_⟩
  rw [List.getElem_drop]
  simp only [Option.getD_some]
  congr 1
  omega
theorem flo_some {zs : List Int} (h1 : zs.length = 18) (h2 : zs.getD 0 0 = 48) (h3 : zs.getD 1 0 = 102) (h4 : ∀ j, 2 ≤ j → j < 18 → hexB (zs.getD j 0) = true) : floatOfL zs = if canon (wrap64 (evH (zs.drop 2))) then some (wrap64 (evH (zs.drop 2))) else none := by
  unfold floatOfL
  have h5 : (zs.drop 2).all hexB = true := by
    rw [List.all_eq_true]
    intro x hx
    obtain ⟨j, hj, rfl⟩ := List.mem_iff_getElem.1 hx
    rw [List.length_drop] at hj
    have := h4 (2 + j) (by omega) (by omega)
    rw [List.getD_eq_getElem?_getD, List.getElem?_eq_getElem (by omega)] at this
    rw [List.getElem_drop]
    simp only [Option.getD_some] at this
    exact this
  rw [decide_eq_true h1, h2, h3, h5]
  simp
theorem hex_case {z : Int} (h : isB z) : (48 ≤ z ∧ z ≤ 57 ∧ hexB z = true ∧ hexV z = z - 48) ∨ (97 ≤ z ∧ z ≤ 102 ∧ hexB z = true ∧ hexV z = z - 97 + 10) ∨ (z < 48 ∧ hexB z = false) ∨ (57 < z ∧ z < 97 ∧ hexB z = false) ∨ (102 < z ∧ hexB z = false) := by
  unfold isB at h
  unfold hexB dig hexV
  rcases (by omega : (48 ≤ z ∧ z ≤ 57) ∨ (97 ≤ z ∧ z ≤ 102) ∨ (z < 48) ∨ (57 < z ∧ z < 97) ∨ (102 < z)) with h | h | h | h | h
  · exact .inl ⟨h.1, h.2, by simp; omega, by rw [if_pos h.2]⟩
  · exact .inr (.inl ⟨h.1, h.2, by simp; omega, by rw [if_neg (by omega)]⟩)
  · exact .inr (.inr (.inl ⟨h, by simp; omega⟩))
  · exact .inr (.inr (.inr (.inl ⟨h.1, h.2, by simp; omega⟩)))
  · exact .inr (.inr (.inr (.inr ⟨h, by simp; omega⟩)))

theorem or16 {U d : Int} (h0 : 0 ≤ U) (h1 : U < 1152921504606846976) (d0 : 0 ≤ d) (d1 : d < 16) : bits .or .u64 (U * 16) d = U * 16 + d := by
  obtain ⟨u, rfl⟩ : ∃ u : Nat, U = (u : Int) := ⟨U.toNat, by omega⟩
  obtain ⟨e, rfl⟩ : ∃ e : Nat, d = (e : Int) := ⟨d.toNat, by omega⟩
  have h := bits_or_u64_nat (u * 16) e (by omega) (by omega)
  rw [show ((u : Int) * 16) = ((u * 16 : Nat) : Int) by omega, h]
  have := Nat.two_pow_add_eq_or_of_lt (i := 4) (b := e) (by omega) u
  rw [show u * 16 = 2 ^ 4 * u by omega, ← this]
  omega
theorem pow16 {U d : Int} {k : Nat} (hk : 2 ≤ k) (h : U < ((16 ^ (k - 2) : Nat) : Int)) (d1 : d < 16) : U * 16 + d < ((16 ^ (k + 1 - 2) : Nat) : Int) := by
  rw [show k + 1 - 2 = (k - 2) + 1 by omega, Nat.pow_succ]
  omega

set_option maxRecDepth 20000 in
set_option maxHeartbeats 2000000 in
theorem flo_any (v : Value) (zs : List Int) (w : World) (h : RdB w v zs) :
    Calls Tryd.prog 15 #[v] w fun e w' => FloP zs w e w' := by
  obtain ⟨a, cap, rfl, hl, hz, hc⟩ := id h
  by_cases h18 : zs.length = 18
  · obtain ⟨g, off, rfl, _, c0⟩ := hc 0 (by omega)
    obtain ⟨_, _, he, _, c1⟩ := hc 1 (by omega)
    cases he
    rw [Nat.add_zero] at c0
    have e18 : ((zs.length : Int) != 18) = false := by simp; omega
    have e18' : (zs.length : Int) = 18 := by omega
    by_cases h0 : zs.getD 0 0 = 48
    · by_cases h1 : zs.getD 1 0 = 102
      · rw [h0] at c0
        rw [h1] at c1
        have HN : Hid (∀ j, 2 ≤ j → j < 18 → hexB (zs.getD j 0) = false → floatOfL zs = none) := fun j h2 h3 hb => flo_none (fun hh => by rw [hh.2.2.2 j h2 h3] at hb; cases hb)
        have HS : Hid ((∀ j, 2 ≤ j → j < 18 → hexB (zs.getD j 0) = true) → floatOfL zs = if canon (wrap64 (evH (zs.drop 2))) then some (wrap64 (evH (zs.drop 2))) else none) := flo_some h18 h0 h1
        have H18 : Hid (zs.length = 18) := h18
        clear h0 h1 h18
        go_enter Tryd.func15, Tryd.ntmps15
        go_wp2_with fail
        go_loop [4, 5] (fun u i => ∃ k : Nat, u = .int .u64 (evH ((zs.take k).drop 2)) ∧ i = .int .i64 (k : Int) ∧ 2 ≤ k ∧ k ≤ 18 ∧ Hid (∀ j, 2 ≤ j → j < k → hexB (zs.getD j 0) = true) ∧ 0 ≤ evH ((zs.take k).drop 2) ∧ Hid (evH ((zs.take k).drop 2) < ((16 ^ (k - 2) : Nat) : Int))) (fun _ i => 18 - (intOf i).toNat)
        case atStart => exact ⟨2, by rw [List.drop_eq_nil_of_le (by rw [List.length_take]; omega)]; rfl, rfl, by decide, by decide, fun j h1 h2 => absurd h1 (by omega), by rw [List.drop_eq_nil_of_le (by rw [List.length_take]; omega)]; decide, show _ < _ by rw [List.drop_eq_nil_of_le (by rw [List.length_take]; omega)]; decide⟩
        case round =>
          obtain ⟨k, rfl, rfl, hk0, hk, hall, hU0, hU1⟩ := hrel
          by_cases hlt : k < 18
          · obtain ⟨_, _, he, _, hv⟩ := hc k (by have := H18.out; omega)
            cases he
            have i1 : (k : Int) < 18 := by omega
            have i2 : (k : Int) < (zs.length : Int) := by have := H18.out; omega
            have HN' : Hid (hexB (zs.getD k 0) = false → floatOfL zs = none) := HN.out k hk0 hlt
            have HT : Hid (∀ j, j = k → hexB (zs.getD j 0) = hexB (zs.getD k 0)) := fun j e => by rw [e]
            have hsn := take_drop_succ hk0 (show k < zs.length by have := H18.out; omega)
            have W3 : Hid (evH ((zs.take (k + 1)).drop 2) = evH ((zs.take k).drop 2) * 16 + hexV (zs.getD k 0)) := by
              show _ = _
              rw [hsn, evH_snoc]
            have hB : evH ((zs.take k).drop 2) < 1152921504606846976 := by
              have h16 : 16 ^ (k - 2) ≤ 16 ^ 15 := Nat.pow_le_pow_right (by decide) (by omega)
              have := hU1.out
              omega
            have hzk := hz k
            generalize zs.getD k 0 = z at *
            generalize evH ((zs.take k).drop 2) = U at *
            clear hsn HN hc
            rcases hex_case hzk with ⟨r1, r2, r3, r4⟩ | ⟨r1, r2, r3, r4⟩ | ⟨r1, r3⟩ | ⟨r1, r2, r3⟩ | ⟨r1, r3⟩
            · have ho := or16 (U := U) (d := z - 48) hU0 hB (by omega) (by omega)
              have w1 := wrap8 (z := z - 48) (by omega) (by omega)
              go_wp2_with fail
              go_round
              case rel => exact ⟨k + 1, by rw [W3.out, r4], by go_num, by omega, by omega, fun j h1 h2 => by
                  rcases Nat.lt_or_ge j k with a | a
                  · exact hall.out j h1 a
                  · rw [HT.out j (by omega)]; exact r3, by rw [W3.out, r4]; omega, show _ < _ by rw [W3.out, r4]; exact pow16 hk0 hU1.out (by omega)⟩
              case measure => simp [intOf]; omega
            · have ho := or16 (U := U) (d := z - 97 + 10) hU0 hB (by omega) (by omega)
              have w1 := wrap8 (z := z - 97) (by omega) (by omega)
              have n1 : 48 ≤ z := by omega
              have n2 : ¬ z ≤ 57 := by omega
              go_wp2_with fail
              go_round
              case rel => exact ⟨k + 1, by rw [W3.out, r4], by go_num, by omega, by omega, fun j h1 h2 => by
                  rcases Nat.lt_or_ge j k with a | a
                  · exact hall.out j h1 a
                  · rw [HT.out j (by omega)]; exact r3, by rw [W3.out, r4]; omega, show _ < _ by rw [W3.out, r4]; exact pow16 hk0 hU1.out (by omega)⟩
              case measure => simp [intOf]; omega
            · go_wp2_with fail
              go_ret2
              exact FloP.no rfl (HN'.out r3) (Later.refl _)
            · have n1 : 48 ≤ z := by omega
              have n2 : ¬ z ≤ 57 := by omega
              have n3 : ¬ 97 ≤ z := by omega
              go_wp2_with fail
              go_ret2
              exact FloP.no rfl (HN'.out r3) (Later.refl _)
            · have n1 : 48 ≤ z := by omega
              have n2 : ¬ z ≤ 57 := by omega
              have n3 : 97 ≤ z := by omega
              have n4 : ¬ z ≤ 102 := by omega
              go_wp2_with fail
              go_ret2
              exact FloP.no rfl (HN'.out r3) (Later.refl _)
          · have hkk : k = 18 := by omega
            subst hkk
            have e2 : zs.take 18 = zs := List.take_of_length_le (by rw [H18.out]; exact Nat.le_refl _)
            rw [e2] at hU0 hU1 ⊢
            have hin : InR (wrap64 (evH (zs.drop 2))) := by rw [← w64]; exact wrap_inR _
            obtain ⟨x, w1, hF, hl1, hB⟩ := bitsfloat_any _ hin w
            have HF : Hid (∀ e w', e = .returned (.tuple #[.int .i64 (wrap64 (evH (zs.drop 2))), .bool (canon (wrap64 (evH (zs.drop 2))))]) → Later w w' → FloP zs w e w') := fun e w' he hl => ⟨_, _, he, HS.out hall.out, hl⟩
            obtain ⟨N, hN⟩ : ∃ N, wrap64 (evH (zs.drop 2)) = N := ⟨_, rfl⟩
            rw [hN] at hF hB HF
            generalize canon N = cN at *
            clear hc HN HS hin hall hU0 hU1 e2
            go_wp2_with fail
            refine hF.mono ?_
            rintro e w2 ⟨rfl, rfl⟩
            go_wp2_with fail
            refine hB.mono ?_
            rintro e w3 ⟨r, rfl, hr, rfl⟩
            go_wp2_with fail
            go_ret2
            exact HF.out _ _ rfl hl1
      · have e : Hid (floatOfL zs = none) := flo_none (fun hh => h1 hh.2.2.1)
        have hne : (zs.getD 1 0 != 102) = true := by simpa using h1
        rw [h0] at c0
        generalize zs.getD 1 0 = z1 at *
        clear hc h
        go_enter Tryd.func15, Tryd.ntmps15
        go_wp2_with fail
        go_ret2
        exact FloP.no rfl e.out (Later.refl _)
    · have e : Hid (floatOfL zs = none) := flo_none (fun hh => h0 hh.2.1)
      have hne : (zs.getD 0 0 != 48) = true := by simpa using h0
      generalize zs.getD 0 0 = z0 at *
      clear hc h
      go_enter Tryd.func15, Tryd.ntmps15
      go_wp2_with fail
      go_ret2
      exact FloP.no rfl e.out (Later.refl _)
  · have e : Hid (floatOfL zs = none) := flo_none (fun hh => h18 hh.1)
    have e18 : ((zs.length : Int) != 18) = true := by simp; omega
    have e18' : ¬ (zs.length : Int) = 18 := by omega
    clear hc h
    go_enter Tryd.func15, Tryd.ntmps15
    go_wp2_with fail
    go_ret2
    exact FloP.no rfl e.out (Later.refl _)

end Go.Proofs.YtleakieppapjmaaDoor.KL
