/- What Lex asks of bytes: letters, digits, signs, words. -/
import Derived.Test.YtleakieppapjmaaDoorK4
namespace Go.Proofs.YtleakieppapjmaaDoor
open Go.RowKit

def low (z : Int) : Bool := decide (97 ≤ z) && decide (z ≤ 122)
def up (z : Int) : Bool := decide (65 ≤ z) && decide (z ≤ 90)
def dig (z : Int) : Bool := decide (48 ≤ z) && decide (z ≤ 57)
def inner (z : Int) : Bool := low z || up z || dig z
def signL : List Int := [40, 41, 123, 125, 91, 93, 44, 59, 46, 42, 61, 43, 47, 37, 60, 45]
def sign (z : Int) : Bool := signL.contains z

theorem range7 (z : Int) : (z < 48) ∨ (48 ≤ z ∧ z ≤ 57) ∨ (57 < z ∧ z < 65) ∨ (65 ≤ z ∧ z ≤ 90) ∨ (90 < z ∧ z < 97) ∨ (97 ≤ z ∧ z ≤ 122) ∨ (122 < z) := by omega

theorem inner_any (z : Int) (w : World) : Calls Tryd.prog 12 #[.int .u8 z] w fun e w' => e = .returned (.bool (inner z)) ∧ w' = w := by
  rcases range7 z with h | h | h | h | h | h | h
  · have e : inner z = false := by unfold inner low up dig; simp; omega
    have h1 : ¬ 97 ≤ z := by omega
    have h2 : ¬ 65 ≤ z := by omega
    have h3 : ¬ 48 ≤ z := by omega
    rw [e]
    go_enter Tryd.func12, Tryd.ntmps12
    go_wp2
    go_ret
    exact ⟨rfl, rfl⟩
  · have e : inner z = true := by unfold inner low up dig; simp; omega
    have h1 : ¬ 97 ≤ z := by omega
    have h2 : ¬ 65 ≤ z := by omega
    obtain ⟨h3, h4⟩ := h
    rw [e]
    go_enter Tryd.func12, Tryd.ntmps12
    go_wp2
    go_ret
    exact ⟨rfl, rfl⟩
  · have e : inner z = false := by unfold inner low up dig; simp; omega
    have h1 : ¬ 97 ≤ z := by omega
    have h2 : ¬ 65 ≤ z := by omega
    have h3 : 48 ≤ z := by omega
    have h4 : ¬ z ≤ 57 := by omega
    clear h
    rw [e]
    go_enter Tryd.func12, Tryd.ntmps12
    go_wp2
    go_ret
    exact ⟨rfl, rfl⟩
  · have e : inner z = true := by unfold inner low up dig; simp; omega
    have h1 : ¬ 97 ≤ z := by omega
    obtain ⟨h3, h4⟩ := h
    rw [e]
    go_enter Tryd.func12, Tryd.ntmps12
    go_wp2
    go_ret
    exact ⟨rfl, rfl⟩
  · have e : inner z = false := by unfold inner low up dig; simp; omega
    have h1 : ¬ 97 ≤ z := by omega
    have h2 : 65 ≤ z := by omega
    have h3 : ¬ z ≤ 90 := by omega
    have h4 : 48 ≤ z := by omega
    have h5 : ¬ z ≤ 57 := by omega
    clear h
    rw [e]
    go_enter Tryd.func12, Tryd.ntmps12
    go_wp2
    go_ret
    exact ⟨rfl, rfl⟩
  · have e : inner z = true := by unfold inner low up dig; simp; omega
    obtain ⟨h3, h4⟩ := h
    rw [e]
    go_enter Tryd.func12, Tryd.ntmps12
    go_wp2
    go_ret
    exact ⟨rfl, rfl⟩
  · have e : inner z = false := by unfold inner low up dig; simp; omega
    have h1 : 97 ≤ z := by omega
    have h2 : ¬ z ≤ 122 := by omega
    have h3 : 65 ≤ z := by omega
    have h4 : ¬ z ≤ 90 := by omega
    have h5 : 48 ≤ z := by omega
    have h6 : ¬ z ≤ 57 := by omega
    clear h
    rw [e]
    go_enter Tryd.func12, Tryd.ntmps12
    go_wp2
    go_ret
    exact ⟨rfl, rfl⟩

theorem sign_at : ∀ k (h : k < 16), ((({ data := #[40, 41, 123, 125, 91, 93, 44, 59, 46, 42, 61, 43, 47, 37, 60, 45] } : ByteArray)[k]'(by exact h)).toNat : Int) = signL.getD k 0 := by decide
theorem sign_true {z : Int} {k : Nat} (h : k < 16) (e : signL.getD k 0 = z) : sign z = true := by
  have : ∀ k, k < 16 → sign (signL.getD k 0) = true := by decide
  rw [← e]; exact this k h
theorem sign_false {z : Int} (h : ∀ j, j < 16 → signL.getD j 0 ≠ z) : sign z = false := by
  unfold sign
  rw [← Bool.not_eq_true, List.contains_iff_exists_mem_beq]
  rintro ⟨a, ha, hb⟩
  obtain ⟨j, hj, rfl⟩ := List.mem_iff_getElem.1 ha
  have e : z = signL[j] := by simpa using hb
  refine h j hj ?_
  rw [List.getD_eq_getElem?_getD, List.getElem?_eq_getElem hj, e]
  rfl

set_option maxHeartbeats 400000 in
theorem sign_any (z : Int) (w : World) : Calls Tryd.prog 13 #[.int .u8 z] w fun e w' => e = .returned (.bool (sign z)) ∧ w' = w := by
  go_enter Tryd.func13, Tryd.ntmps13
  go_wp2
  go_loop [4] (fun i => ∃ k : Nat, i = .int .i64 (k : Int) ∧ k ≤ 16 ∧ Hid (∀ j, j < k → signL.getD j 0 ≠ z)) (fun i => 16 - (intOf i).toNat)
  case atStart => exact ⟨0, rfl, by decide, fun j hj => absurd hj (Nat.not_lt_zero _)⟩
  case round =>
    obtain ⟨k, rfl, hk, hall⟩ := hrel
    by_cases hlt : k < 16
    · have i1 : (k : Int) < 16 := by omega
      have hx := sign_at k hlt
      have H1 : Hid (signL.getD k 0 = z → sign z = true) := fun e => sign_true hlt e
      have H2 : Hid (∀ j, j = k → signL.getD j 0 = signL.getD k 0) := fun j e => by rw [e]
      generalize signL.getD k 0 = s at *
      by_cases hz : s = z
      · have hz' : (s == z) = true := by simpa using hz
        go_wp2_with fail
        go_ret
        exact ⟨ret_bool (H1.out hz).symm, rfl⟩
      · have hz' : (s == z) = false := by simpa using hz
        go_wp2_with fail
        go_round
        case rel => exact ⟨k + 1, by go_num, by omega, fun j hj => by
            rcases Nat.lt_or_ge j k with a | a
            · exact hall.out j a
            · rw [H2.out j (by omega)]; exact hz⟩
        case measure => simp [intOf]; omega
    · have i1 : ¬ (k : Int) < 16 := by omega
      have hkk : k = 16 := by omega
      subst hkk
      go_wp2_with fail
      go_ret
      exact ⟨ret_bool (sign_false hall.out).symm, rfl⟩

/-- A small or a great word. -/
def wordL (zs : List Int) (great : Bool) : Bool := decide (1 ≤ zs.length) && decide (zs.length ≤ 8) && (if great then up (zs.getD 0 0) else low (zs.getD 0 0)) && zs.tail.all (fun z => low z || dig z)
/-- May it stand at this place of a word? -/
def wordAt (k : Nat) (great : Bool) (z : Int) : Bool := if k = 0 then (if great then up z else low z) else low z || dig z
theorem wordL_eq {zs : List Int} (great : Bool) (h1 : 1 ≤ zs.length) (h8 : zs.length ≤ 8) : wordL zs great = true ↔ ∀ j, j < zs.length → wordAt j great (zs.getD j 0) = true := by
  match zs, h1 with
  | z :: r, _ =>
    unfold wordL
    have e1 : decide (1 ≤ (z :: r).length) = true := by simp
    have e2 : decide ((z :: r).length ≤ 8) = true := by simpa using h8
    rw [e1, e2]
    simp only [Bool.true_and, Bool.and_eq_true, List.tail_cons, List.all_eq_true]
    constructor
    · rintro ⟨ha, hb⟩ j hj
      match j with
      | 0 => exact ha
      | j + 1 =>
        have hj' : j < r.length := by simpa using hj
        show (low _ || dig _) = true
        refine hb _ ?_
        simp only [List.getD_cons_succ]
        rw [List.getD_eq_getElem?_getD, List.getElem?_eq_getElem hj']
        exact List.getElem_mem _
    · intro h
      refine ⟨h 0 (by simp), fun x hx => ?_⟩
      obtain ⟨j, hj, rfl⟩ := List.mem_iff_getElem.1 hx
      have := h (j + 1) (by simpa using hj)
      simp only [List.getD_cons_succ, wordAt] at this
      rw [List.getD_eq_getElem?_getD, List.getElem?_eq_getElem hj] at this
      simpa using this
theorem wk {k : Nat} (h : k ≠ 0) (g : Bool) (z : Int) : wordAt k g z = (low z || dig z) := if_neg h
theorem ranges (z : Int) : ∃ a b c : Bool, a = low z ∧ b = up z ∧ c = dig z := ⟨_, _, _, rfl, rfl, rfl⟩

set_option maxRecDepth 20000 in
set_option maxHeartbeats 2000000 in
theorem word_any (v : Value) (zs : List Int) (great : Bool) (w : World) (h : RdB w v zs) : Calls Tryd.prog 16 #[v, .bool great] w fun e w' => e = .returned (.bool (wordL zs great)) ∧ w' = w := by
  obtain ⟨a, cap, rfl, hl, hz, hc⟩ := h
  by_cases h1 : zs.length < 1
  · have e : wordL zs great = false := by unfold wordL; rw [decide_eq_false (by omega)]; rfl
    have h1' : (zs.length : Int) < 1 := by omega
    rw [e]
    clear hc e
    go_enter Tryd.func16, Tryd.ntmps16
    go_wp2
    go_ret
    exact ⟨rfl, rfl⟩
  by_cases h8 : 8 < zs.length
  · have e : wordL zs great = false := by unfold wordL; rw [decide_eq_false (show ¬ zs.length ≤ 8 by omega)]; simp
    have h1' : ¬ (zs.length : Int) < 1 := by omega
    have h8' : (8 : Int) < (zs.length : Int) := by omega
    rw [e]
    clear hc e
    go_enter Tryd.func16, Tryd.ntmps16
    go_wp2
    go_ret
    exact ⟨rfl, rfl⟩
  have h1' : ¬ (zs.length : Int) < 1 := by omega
  have h8' : ¬ (8 : Int) < (zs.length : Int) := by omega
  have HW := wordL_eq (zs := zs) great (by omega) (by omega)
  have HW1 : Hid ((∀ j, j < zs.length → wordAt j great (zs.getD j 0) = true) → wordL zs great = true) := HW.2
  have HW2 : Hid (∀ j, j < zs.length → wordAt j great (zs.getD j 0) = false → wordL zs great = false) := fun j hj e => by
    rw [← Bool.not_eq_true, HW]
    intro hall
    rw [hall j hj] at e
    cases e
  clear HW
  go_enter Tryd.func16, Tryd.ntmps16
  go_wp2
  go_loop [5] (fun i => ∃ k : Nat, i = .int .i64 (k : Int) ∧ k ≤ zs.length ∧ Hid (∀ j, j < k → wordAt j great (zs.getD j 0) = true)) (fun i => zs.length - (intOf i).toNat)
  case atStart => exact ⟨0, rfl, Nat.zero_le _, fun j hj => absurd hj (Nat.not_lt_zero _)⟩
  case round =>
    obtain ⟨k, rfl, hk, hall⟩ := hrel
    by_cases hlt : k < zs.length
    · obtain ⟨g, off, rfl, _, hv⟩ := hc k hlt
      have i1 : (k : Int) < (zs.length : Int) := by omega
      have HF : Hid (wordAt k great (zs.getD k 0) = false → wordL zs great = false) := HW2.out k hlt
      have HT : Hid (∀ j, j = k → wordAt j great (zs.getD j 0) = wordAt k great (zs.getD k 0)) := fun j e => by rw [e]
      generalize zs.getD k 0 = z at *
      clear hc HW2
      by_cases hk0 : k = 0
      · subst hk0
        rw [Nat.add_zero] at hv
        rcases range7 z with hr | hr | hr | hr | hr | hr | hr
        · have f0 : ¬ 97 ≤ z := by omega
          have f1 : z ≤ 122 := by omega
          have f2 : ¬ 65 ≤ z := by omega
          have f3 : z ≤ 90 := by omega
          have f4 : ¬ 48 ≤ z := by omega
          have f5 : z ≤ 57 := by omega
          have lz : low z = false := by unfold low; simp; omega
          have uz : up z = false := by unfold up; simp; omega
          have dz : dig z = false := by unfold dig; simp; omega
          clear hr
          cases great
          · have e : wordAt 0 false z = false := lz
            clear lz uz dz
            go_wp2_with fail
            go_ret
            exact ⟨ret_bool (HF.out e).symm, rfl⟩
          · have e : wordAt 0 true z = false := uz
            clear lz uz dz
            go_wp2_with fail
            go_ret
            exact ⟨ret_bool (HF.out e).symm, rfl⟩
        · have f0 : ¬ 97 ≤ z := by omega
          have f1 : z ≤ 122 := by omega
          have f2 : ¬ 65 ≤ z := by omega
          have f3 : z ≤ 90 := by omega
          have f4 : 48 ≤ z := by omega
          have f5 : z ≤ 57 := by omega
          have lz : low z = false := by unfold low; simp; omega
          have uz : up z = false := by unfold up; simp; omega
          have dz : dig z = true := by unfold dig; simp; omega
          clear hr
          cases great
          · have e : wordAt 0 false z = false := lz
            clear lz uz dz
            go_wp2_with fail
            go_ret
            exact ⟨ret_bool (HF.out e).symm, rfl⟩
          · have e : wordAt 0 true z = false := uz
            clear lz uz dz
            go_wp2_with fail
            go_ret
            exact ⟨ret_bool (HF.out e).symm, rfl⟩
        · have f0 : ¬ 97 ≤ z := by omega
          have f1 : z ≤ 122 := by omega
          have f2 : ¬ 65 ≤ z := by omega
          have f3 : z ≤ 90 := by omega
          have f4 : 48 ≤ z := by omega
          have f5 : ¬ z ≤ 57 := by omega
          have lz : low z = false := by unfold low; simp; omega
          have uz : up z = false := by unfold up; simp; omega
          have dz : dig z = false := by unfold dig; simp; omega
          clear hr
          cases great
          · have e : wordAt 0 false z = false := lz
            clear lz uz dz
            go_wp2_with fail
            go_ret
            exact ⟨ret_bool (HF.out e).symm, rfl⟩
          · have e : wordAt 0 true z = false := uz
            clear lz uz dz
            go_wp2_with fail
            go_ret
            exact ⟨ret_bool (HF.out e).symm, rfl⟩
        · have f0 : ¬ 97 ≤ z := by omega
          have f1 : z ≤ 122 := by omega
          have f2 : 65 ≤ z := by omega
          have f3 : z ≤ 90 := by omega
          have f4 : 48 ≤ z := by omega
          have f5 : ¬ z ≤ 57 := by omega
          have lz : low z = false := by unfold low; simp; omega
          have uz : up z = true := by unfold up; simp; omega
          have dz : dig z = false := by unfold dig; simp; omega
          clear hr
          cases great
          · have e : wordAt 0 false z = false := lz
            clear lz uz dz
            go_wp2_with fail
            go_ret
            exact ⟨ret_bool (HF.out e).symm, rfl⟩
          · have e : wordAt 0 true z = true := uz
            clear lz uz dz
            go_wp2_with fail
            go_round
            case rel => exact ⟨0 + 1, by go_num, by omega, fun j hj => by
                rcases Nat.lt_or_ge j 0 with a | a
                · exact hall.out j a
                · rw [HT.out j (by omega)]; exact e⟩
            case measure => simp [intOf]; omega
        · have f0 : ¬ 97 ≤ z := by omega
          have f1 : z ≤ 122 := by omega
          have f2 : 65 ≤ z := by omega
          have f3 : ¬ z ≤ 90 := by omega
          have f4 : 48 ≤ z := by omega
          have f5 : ¬ z ≤ 57 := by omega
          have lz : low z = false := by unfold low; simp; omega
          have uz : up z = false := by unfold up; simp; omega
          have dz : dig z = false := by unfold dig; simp; omega
          clear hr
          cases great
          · have e : wordAt 0 false z = false := lz
            clear lz uz dz
            go_wp2_with fail
            go_ret
            exact ⟨ret_bool (HF.out e).symm, rfl⟩
          · have e : wordAt 0 true z = false := uz
            clear lz uz dz
            go_wp2_with fail
            go_ret
            exact ⟨ret_bool (HF.out e).symm, rfl⟩
        · have f0 : 97 ≤ z := by omega
          have f1 : z ≤ 122 := by omega
          have f2 : 65 ≤ z := by omega
          have f3 : ¬ z ≤ 90 := by omega
          have f4 : 48 ≤ z := by omega
          have f5 : ¬ z ≤ 57 := by omega
          have lz : low z = true := by unfold low; simp; omega
          have uz : up z = false := by unfold up; simp; omega
          have dz : dig z = false := by unfold dig; simp; omega
          clear hr
          cases great
          · have e : wordAt 0 false z = true := lz
            clear lz uz dz
            go_wp2_with fail
            go_round
            case rel => exact ⟨0 + 1, by go_num, by omega, fun j hj => by
                rcases Nat.lt_or_ge j 0 with a | a
                · exact hall.out j a
                · rw [HT.out j (by omega)]; exact e⟩
            case measure => simp [intOf]; omega
          · have e : wordAt 0 true z = false := uz
            clear lz uz dz
            go_wp2_with fail
            go_ret
            exact ⟨ret_bool (HF.out e).symm, rfl⟩
        · have f0 : 97 ≤ z := by omega
          have f1 : ¬ z ≤ 122 := by omega
          have f2 : 65 ≤ z := by omega
          have f3 : ¬ z ≤ 90 := by omega
          have f4 : 48 ≤ z := by omega
          have f5 : ¬ z ≤ 57 := by omega
          have lz : low z = false := by unfold low; simp; omega
          have uz : up z = false := by unfold up; simp; omega
          have dz : dig z = false := by unfold dig; simp; omega
          clear hr
          cases great
          · have e : wordAt 0 false z = false := lz
            clear lz uz dz
            go_wp2_with fail
            go_ret
            exact ⟨ret_bool (HF.out e).symm, rfl⟩
          · have e : wordAt 0 true z = false := uz
            clear lz uz dz
            go_wp2_with fail
            go_ret
            exact ⟨ret_bool (HF.out e).symm, rfl⟩
      · have k1 : ((k : Int) == 0) = false := by simpa using hk0
        have k2 : 0 < (k : Int) := by omega
        rcases range7 z with hr | hr | hr | hr | hr | hr | hr
        · have f0 : ¬ 97 ≤ z := by omega
          have f1 : z ≤ 122 := by omega
          have f2 : ¬ 65 ≤ z := by omega
          have f3 : z ≤ 90 := by omega
          have f4 : ¬ 48 ≤ z := by omega
          have f5 : z ≤ 57 := by omega
          have lz : low z = false := by unfold low; simp; omega
          have uz : up z = false := by unfold up; simp; omega
          have dz : dig z = false := by unfold dig; simp; omega
          clear hr
          cases great
          · have e : wordAt k false z = false := by rw [wk hk0, lz, dz]; rfl
            clear lz uz dz
            go_wp2_with fail
            go_ret
            exact ⟨ret_bool (HF.out e).symm, rfl⟩
          · have e : wordAt k true z = false := by rw [wk hk0, lz, dz]; rfl
            clear lz uz dz
            go_wp2_with fail
            go_ret
            exact ⟨ret_bool (HF.out e).symm, rfl⟩
        · have f0 : ¬ 97 ≤ z := by omega
          have f1 : z ≤ 122 := by omega
          have f2 : ¬ 65 ≤ z := by omega
          have f3 : z ≤ 90 := by omega
          have f4 : 48 ≤ z := by omega
          have f5 : z ≤ 57 := by omega
          have lz : low z = false := by unfold low; simp; omega
          have uz : up z = false := by unfold up; simp; omega
          have dz : dig z = true := by unfold dig; simp; omega
          clear hr
          cases great
          · have e : wordAt k false z = true := by rw [wk hk0, lz, dz]; rfl
            clear lz uz dz
            go_wp2_with fail
            go_round
            case rel => exact ⟨k + 1, by go_num, by omega, fun j hj => by
                rcases Nat.lt_or_ge j k with a | a
                · exact hall.out j a
                · rw [HT.out j (by omega)]; exact e⟩
            case measure => simp [intOf]; omega
          · have e : wordAt k true z = true := by rw [wk hk0, lz, dz]; rfl
            clear lz uz dz
            go_wp2_with fail
            go_round
            case rel => exact ⟨k + 1, by go_num, by omega, fun j hj => by
                rcases Nat.lt_or_ge j k with a | a
                · exact hall.out j a
                · rw [HT.out j (by omega)]; exact e⟩
            case measure => simp [intOf]; omega
        · have f0 : ¬ 97 ≤ z := by omega
          have f1 : z ≤ 122 := by omega
          have f2 : ¬ 65 ≤ z := by omega
          have f3 : z ≤ 90 := by omega
          have f4 : 48 ≤ z := by omega
          have f5 : ¬ z ≤ 57 := by omega
          have lz : low z = false := by unfold low; simp; omega
          have uz : up z = false := by unfold up; simp; omega
          have dz : dig z = false := by unfold dig; simp; omega
          clear hr
          cases great
          · have e : wordAt k false z = false := by rw [wk hk0, lz, dz]; rfl
            clear lz uz dz
            go_wp2_with fail
            go_ret
            exact ⟨ret_bool (HF.out e).symm, rfl⟩
          · have e : wordAt k true z = false := by rw [wk hk0, lz, dz]; rfl
            clear lz uz dz
            go_wp2_with fail
            go_ret
            exact ⟨ret_bool (HF.out e).symm, rfl⟩
        · have f0 : ¬ 97 ≤ z := by omega
          have f1 : z ≤ 122 := by omega
          have f2 : 65 ≤ z := by omega
          have f3 : z ≤ 90 := by omega
          have f4 : 48 ≤ z := by omega
          have f5 : ¬ z ≤ 57 := by omega
          have lz : low z = false := by unfold low; simp; omega
          have uz : up z = true := by unfold up; simp; omega
          have dz : dig z = false := by unfold dig; simp; omega
          clear hr
          cases great
          · have e : wordAt k false z = false := by rw [wk hk0, lz, dz]; rfl
            clear lz uz dz
            go_wp2_with fail
            go_ret
            exact ⟨ret_bool (HF.out e).symm, rfl⟩
          · have e : wordAt k true z = false := by rw [wk hk0, lz, dz]; rfl
            clear lz uz dz
            go_wp2_with fail
            go_ret
            exact ⟨ret_bool (HF.out e).symm, rfl⟩
        · have f0 : ¬ 97 ≤ z := by omega
          have f1 : z ≤ 122 := by omega
          have f2 : 65 ≤ z := by omega
          have f3 : ¬ z ≤ 90 := by omega
          have f4 : 48 ≤ z := by omega
          have f5 : ¬ z ≤ 57 := by omega
          have lz : low z = false := by unfold low; simp; omega
          have uz : up z = false := by unfold up; simp; omega
          have dz : dig z = false := by unfold dig; simp; omega
          clear hr
          cases great
          · have e : wordAt k false z = false := by rw [wk hk0, lz, dz]; rfl
            clear lz uz dz
            go_wp2_with fail
            go_ret
            exact ⟨ret_bool (HF.out e).symm, rfl⟩
          · have e : wordAt k true z = false := by rw [wk hk0, lz, dz]; rfl
            clear lz uz dz
            go_wp2_with fail
            go_ret
            exact ⟨ret_bool (HF.out e).symm, rfl⟩
        · have f0 : 97 ≤ z := by omega
          have f1 : z ≤ 122 := by omega
          have f2 : 65 ≤ z := by omega
          have f3 : ¬ z ≤ 90 := by omega
          have f4 : 48 ≤ z := by omega
          have f5 : ¬ z ≤ 57 := by omega
          have lz : low z = true := by unfold low; simp; omega
          have uz : up z = false := by unfold up; simp; omega
          have dz : dig z = false := by unfold dig; simp; omega
          clear hr
          cases great
          · have e : wordAt k false z = true := by rw [wk hk0, lz, dz]; rfl
            clear lz uz dz
            go_wp2_with fail
            go_round
            case rel => exact ⟨k + 1, by go_num, by omega, fun j hj => by
                rcases Nat.lt_or_ge j k with a | a
                · exact hall.out j a
                · rw [HT.out j (by omega)]; exact e⟩
            case measure => simp [intOf]; omega
          · have e : wordAt k true z = true := by rw [wk hk0, lz, dz]; rfl
            clear lz uz dz
            go_wp2_with fail
            go_round
            case rel => exact ⟨k + 1, by go_num, by omega, fun j hj => by
                rcases Nat.lt_or_ge j k with a | a
                · exact hall.out j a
                · rw [HT.out j (by omega)]; exact e⟩
            case measure => simp [intOf]; omega
        · have f0 : 97 ≤ z := by omega
          have f1 : ¬ z ≤ 122 := by omega
          have f2 : 65 ≤ z := by omega
          have f3 : ¬ z ≤ 90 := by omega
          have f4 : 48 ≤ z := by omega
          have f5 : ¬ z ≤ 57 := by omega
          have lz : low z = false := by unfold low; simp; omega
          have uz : up z = false := by unfold up; simp; omega
          have dz : dig z = false := by unfold dig; simp; omega
          clear hr
          cases great
          · have e : wordAt k false z = false := by rw [wk hk0, lz, dz]; rfl
            clear lz uz dz
            go_wp2_with fail
            go_ret
            exact ⟨ret_bool (HF.out e).symm, rfl⟩
          · have e : wordAt k true z = false := by rw [wk hk0, lz, dz]; rfl
            clear lz uz dz
            go_wp2_with fail
            go_ret
            exact ⟨ret_bool (HF.out e).symm, rfl⟩
    · have i1 : ¬ (k : Int) < (zs.length : Int) := by omega
      have i2 : decide ((k : Int) < (zs.length : Int)) = false := decide_eq_false i1
      go_wp2_with fail
      go_ret
      exact ⟨ret_bool (HW1.out (fun j hj => hall.out j (by omega))).symm, rfl⟩

end Go.Proofs.YtleakieppapjmaaDoor
