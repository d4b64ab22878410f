/- What the printer takes from the library: bits as sixteen digits. -/
import Derived.Test.YtleakieppapjmaaDoorT61
namespace Go.Proofs.YtleakieppapjmaaDoor
open Go.RowKit Go.Lib
set_option maxRecDepth 20000 in
set_option maxHeartbeats 1000000 in
theorem tz_16 (w : World) (h : w.cell? ⟨6, 15, none⟩ = some (.int .u8 4)) : Calls Tryd.prog 87 #[.int .u64 16] w fun e w' => e = .returned (.int .i64 4) ∧ w' = w := by
  have e1 : IntKind.u64.wrap (bits .and .u64 16 (IntKind.u64.wrap (-16)) * 285870213051353865) / 288230376151711744 = 15 := by decide
  have hA : Calls Tryd.prog 91 #[.int .u64 16] w fun e w' => e = .returned (.int .i64 4) ∧ w' = w := by
    go_enter Tryd.func91, Tryd.ntmps91
    go_wp2_with fail
    go_ret
    exact ⟨rfl, rfl⟩
  clear e1 h
  go_enter Tryd.func87, Tryd.ntmps87
  go_wp2_with (go_at_call 91; refine hA.mono ?_; rintro e w2 ⟨rfl, hw⟩; obtain rfl := hw.symm)
  go_ret
  exact ⟨rfl, rfl⟩
set_option maxRecDepth 20000 in
theorem pow_16 (w : World) : Calls Tryd.prog 86 #[.int .i64 16] w fun e w' => e = .returned (.bool true) ∧ w' = w := by
  have e1 : bits .and .i64 16 15 = 0 := by decide
  go_enter Tryd.func86, Tryd.ntmps86
  go_wp2_with fail
  go_ret
  exact ⟨rfl, rfl⟩
theorem hexF_cons (k u : Nat) : hexF (k + 1) u = hexD (u / 16 ^ k % 16) :: hexF k u := by
  induction k generalizing u with
  | zero => rw [hexF, hexF, hexF, Nat.pow_zero, Nat.div_one]; rfl
  | succ k ih => rw [hexF, ih, hexF, Nat.div_div_eq_div_mul, Nat.pow_succ, Nat.mul_comm]; rfl
theorem hex36 : ∀ (D : Nat) (h : D < 36), D < 16 → ((((⟨#[48, 49, 50, 51, 52, 53, 54, 55, 56, 57, 97, 98, 99, 100, 101, 102, 103, 104, 105, 106, 107, 108, 109, 110, 111, 112, 113, 114, 115, 116, 117, 118, 119, 120, 121, 122]⟩ : ByteArray)[D]'h).toNat : Nat) : Int) = hexD D := by
  intro D h _
  obtain rfl | rfl | rfl | rfl | rfl | rfl | rfl | rfl | rfl | rfl | rfl | rfl | rfl | rfl | rfl | rfl : D = 0 ∨ D = 1 ∨ D = 2 ∨ D = 3 ∨ D = 4 ∨ D = 5 ∨ D = 6 ∨ D = 7 ∨ D = 8 ∨ D = 9 ∨ D = 10 ∨ D = 11 ∨ D = 12 ∨ D = 13 ∨ D = 14 ∨ D = 15 := by omega
  all_goals rfl
/-- The digits so far, at the row's end. -/
def Tail16 (C : Array Value) (p : Nat) (zs : List Int) : Prop := C.size = 65 ∧ p + zs.length = 65 ∧ ∀ j z, zs[j]? = some z → C[p + j]? = some (.int .u8 z)
theorem Tail16.put {C : Array Value} {p : Nat} {zs : List Int} (h : Tail16 C (p + 1) zs) (z : Int) : Tail16 (C.setIfInBounds p (.int .u8 z)) p (z :: zs) := by
  obtain ⟨h1, h2, h3⟩ := h
  refine ⟨by simpa using h1, by rw [List.length_cons]; omega, fun j y hy => ?_⟩
  cases j with
  | zero =>
    have : z = y := by simpa using hy
    subst this
    rw [Nat.add_zero, Array.getElem?_setIfInBounds_self_of_lt (by omega)]
  | succ j =>
    have hy' : zs[j]? = some y := by simpa using hy
    rw [Array.getElem?_setIfInBounds_ne (by omega), show p + (j + 1) = p + 1 + j by omega]
    exact h3 j y hy'
/-- The row of sixty-five bytes under way. -/
structure Row16 (w wr : World) (p : Nat) (zs : List Int) : Prop where
  lat : Later w wr
  row : ∃ C, wr.heap[w.heap.size]? = some (.cells C 105) ∧ Tail16 C p zs
theorem Row16.old {w wr : World} {p : Nat} {zs : List Int} (h : Row16 w wr (p + 1) zs) : ∃ u, wr.cell? ⟨w.heap.size, p, none⟩ = some u ∧ wr.frozen? ⟨w.heap.size, p, none⟩ = false := by
  obtain ⟨_, C, hr, h1, h2, _⟩ := h
  have hp : p < C.size := by omega
  refine ⟨C[p], ?_, ?_⟩
  · show (match wr.heap[w.heap.size]? with | some (.cells c _ _) => c[p]? | _ => none) = some C[p]
    rw [hr]
    exact Array.getElem?_eq_getElem hp
  · simp [World.frozen?, hr]
theorem Row16.put {w wr : World} {p : Nat} {zs : List Int} (h : Row16 w wr (p + 1) zs) (z : Int) : Row16 w (wr.setCell ⟨w.heap.size, p, none⟩ (.int .u8 z)) p (z :: zs) := by
  obtain ⟨hl, C, hr, hT⟩ := h
  refine ⟨hl.trans' (v := .slice (some ⟨w.heap.size, 0, none⟩) 0 0) (set_grown wr w.heap.size p (.int .u8 z)) (fun b e => by cases e; exact Nat.le_refl _), _, heap_setCell_same wr w.heap.size p _ _ (.int .u8 z) hr, hT.put z⟩
theorem Row16.cells {w wr : World} {p : Nat} {zs : List Int} (h : Row16 w wr p zs) : ∀ i, i < zs.length → wr.cell? ⟨w.heap.size, p + i, none⟩ = some (.int .u8 (zs.getD i 0)) := by
  intro i hi
  obtain ⟨_, C, hr, _, _, h3⟩ := h
  show (match wr.heap[w.heap.size]? with | some (.cells c _ _) => c[p + i]? | _ => none) = _
  rw [hr]
  refine h3 i _ ?_
  rw [List.getD_eq_getElem?_getD, List.getElem?_eq_getElem hi]
  rfl
theorem hexF_byte : ∀ (k u : Nat), ∀ z ∈ hexF k u, 0 ≤ z ∧ z ≤ 255
  | 0, _, z, h => by simp [hexF] at h
  | k + 1, u, z, h => by
    rw [hexF, List.mem_append] at h
    rcases h with h | h
    · exact hexF_byte k _ z h
    · have : z = hexD (u % 16) := by simpa using h
      rw [this]
      unfold hexD
      split <;> omega
def F16 (u : Nat) (w : World) (e : Ending) (w' : World) : Prop := ∃ s m, e = .returned (.tuple #[.slice none 0 0, .string s]) ∧ 1 ≤ m ∧ m ≤ 16 ∧ u < 16 ^ m ∧ bytesOf s = hexF m u ∧ Later w w'
set_option maxRecDepth 20000 in
set_option maxHeartbeats 1000000 in
theorem bits16_any (u : Nat) (w : World) (hu : u < 18446744073709551616) (hg : 6 < w.heap.size) (h : w.cell? ⟨6, 15, none⟩ = some (.int .u8 4)) : Calls Tryd.prog 78 #[.slice none 0 0, .int .u64 (u : Int), .int .i64 16, .bool false, .bool false] w (F16 u w) := by
  have hq : ∀ o, (w.alloc o).cell? ⟨6, 15, none⟩ = some (.int .u8 4) := fun o => by rw [(later1 w o).cell (p := ⟨6, 15, none⟩) hg]; exact h
  have HQ : Hid (∀ o, (w.alloc o).cell? ⟨6, 15, none⟩ = some (.int .u8 4)) := hq
  clear hq h
  have H16 : Hid (u < 16 ^ 16) := by show u < 16 ^ 16; have : (16 : Nat) ^ 16 = 18446744073709551616 := by decide
                                     omega
  have HFQ : Hid (∀ e w', F16 u w e w' → F16 u w e w') := fun _ _ h => h
  generalize hQ : F16 u w = Q at HFQ ⊢
  have HFQ' : Hid (∀ e w', F16 u w e w' → Q e w') := fun e w' h => by rw [← hQ]; exact h
  clear hQ HFQ
  go_enter Tryd.func78, Tryd.ntmps78
  go_wp2_with (first | (go_at_call 87; refine (tz_16 _ (HQ.out _)).mono ?_; rintro e w2 ⟨rfl, hw⟩; obtain rfl := hw.symm) | (go_at_call 86; refine (pow_16 _).mono ?_; rintro e w2 ⟨rfl, hw⟩; obtain rfl := hw.symm))
  go_loopw [1, 13] (fun uu i wr => ∃ (k p : Nat), uu = .int .u64 ((u / 16 ^ k : Nat) : Int) ∧ i = .int .i64 (p : Int) ∧ k ≤ 15 ∧ Row16 w wr p (hexF k u)) (fun uu _ _ => (RowKit.intOf uu).toNat)
  case atStart => exact ⟨0, 65, by rw [Nat.pow_zero, Nat.div_one], rfl, by omega, later1 _ _, _, (by show (w.heap.push _)[w.heap.size]? = _; simp; rfl), rfl, rfl, fun j z hz => by simp [hexF] at hz⟩
  case round =>
    obtain ⟨k, p, rfl, rfl, hk, hR⟩ := hrel
    have hlen : p + k = 65 := by obtain ⟨_, C, _, _, h2, _⟩ := hR; rw [hexF_len] at h2; exact h2
    obtain ⟨q, rfl⟩ : ∃ q, p = q + 1 := ⟨p - 1, by omega⟩
    have hx64 : u / 16 ^ k < 18446744073709551616 := Nat.lt_of_le_of_lt (Nat.div_le_self _ _) hu
    have hstep := hexF_cons k u
    obtain ⟨v0, c0, f0⟩ := hR.old
    by_cases hge : 16 ≤ u / 16 ^ k
    · have i1 : (16 : Int) ≤ ((u / 16 ^ k : Nat) : Int) := by omega
      have hk15 : k + 1 ≤ 15 := by
        rcases Nat.lt_or_ge k 15 with h | h
        · exact h
        · exfalso
          have : k = 15 := by omega
          subst this
          have h1 := H16.out
          have h2 : (16 : Nat) ^ 16 = 16 ^ 15 * 16 := by decide
          rw [h2] at h1
          have := Nat.div_lt_of_lt_mul h1
          omega
      obtain ⟨D, hD, hD16, hDe⟩ : ∃ D : Nat, bits .and .u64 ((u / 16 ^ k : Nat) : Int) 15 = (D : Int) ∧ D < 16 ∧ Hid (D = u / 16 ^ k % 16) := ⟨u / 16 ^ k % 16, by
        have h2 := bits_and_u64_nat (u / 16 ^ k) 15 hx64 (by decide)
        rw [show ((15 : Nat) : Int) = 15 from rfl] at h2
        rw [h2, show (15 : Nat) = 2 ^ 4 - 1 from rfl, Nat.and_two_pow_sub_one_eq_mod], Nat.mod_lt _ (by decide), rfl⟩
      have hlit := hex36 D (by omega) hD16
      have hdd : Hid (u / 16 ^ (k + 1) = u / 16 ^ k / 16) := by show _ = _; rw [Nat.pow_succ, ← Nat.div_div_eq_div_mul]
      have HT : Hid (Row16 w (wr.setCell ⟨w.heap.size, q, none⟩ (.int .u8 (hexD D))) q (hexF (k + 1) u)) := by show Row16 _ _ _ _; rw [hstep, ← hDe.out]; exact hR.put _
      have hX' : ∃ X, Hid (X = u / 16 ^ k) := ⟨_, rfl⟩
      obtain ⟨X, hX⟩ := hX'
      rw [← hX.out] at i1 hD hx64 hdd ⊢
      clear hstep hge
      go_wp2_with fail
      refine ⟨⟨k + 1, q, by rw [hdd.out, Int.natCast_ediv]; rfl, rfl, hk15, HT.out⟩, ?_⟩
      simp only [RowKit.intOf]
      omega
    · have i1 : ¬ (16 : Int) ≤ ((u / 16 ^ k : Nat) : Int) := by omega
      have hu16 : Hid (u < 16 ^ (k + 1)) := by
        show u < 16 ^ (k + 1)
        have h3 := (Nat.div_lt_iff_lt_mul (Nat.pow_pos (n := k) (show 0 < 16 by decide))).1 (show u / 16 ^ k < 16 by omega)
        rw [Nat.pow_succ, Nat.mul_comm]
        exact h3
      have hR1 : Row16 w (wr.setCell ⟨w.heap.size, q, none⟩ (.int .u8 (hexD (u / 16 ^ k)))) q (hexF (k + 1) u) := by
        rw [hstep, Nat.mod_eq_of_lt (show u / 16 ^ k < 16 by omega)]
        exact hR.put _
      have hlm : (hexF (k + 1) u).length = k + 1 := hexF_len _ _
      have hlq : 65 - q = k + 1 := by omega
      have hlq' : (65 : Int) - (q : Int) = ((k + 1 : Nat) : Int) := by omega
      have cv : ∀ c, (convert 22 9 (.slice (some ⟨w.heap.size, q, none⟩) (65 - q) c)).run Tryd.prog (wr.setCell ⟨w.heap.size, q, none⟩ (.int .u8 (hexD (u / 16 ^ k)))) = .ok (.string (strOfNums (hexF (k + 1) u))) (wr.setCell ⟨w.heap.size, q, none⟩ (.int .u8 (hexD (u / 16 ^ k)))) := fun c => by
        rw [hlq]
        exact run_convert_bytes_arg _ 22 5 Tryd.underlying22 Tryd.underlying5 w.heap.size q (k + 1) c (hexF (k + 1) u) hlm (fun i hi => hR1.cells i (by omega)) 9 Tryd.underlying9
      have HB : Hid (Q (.returned (.tuple #[.slice none 0 0, .string (strOfNums (hexF (k + 1) u))])) (wr.setCell ⟨w.heap.size, q, none⟩ (.int .u8 (hexD (u / 16 ^ k))))) := HFQ'.out _ _ ⟨_, k + 1, rfl, by omega, by omega, hu16.out, bytesOf_nums _ (hexF_byte _ _), hR1.lat⟩
      obtain ⟨X, hX⟩ := hid_ex (u / 16 ^ k)
      obtain ⟨Z, hZ⟩ := hid_ex (strOfNums (hexF (k + 1) u))
      rw [← hZ.out] at cv HB
      rw [← hX.out] at i1 cv HB hx64 ⊢
      have hX16 : X < 16 := by omega
      have hlit := hex36 X (by omega) hX16
      have hq65 : (q : Int) ≤ 65 := by omega
      have hqn : ¬ 65 = q := by omega
      clear hstep hge hR1 hR hlq hlq'
      go_wp2_with fail
      exact HB.out
def H16 (u : Nat) (w : World) (e : Ending) (w' : World) : Prop := ∃ s m, e = .returned (.string s) ∧ 1 ≤ m ∧ m ≤ 16 ∧ u < 16 ^ m ∧ bytesOf s = hexF m u ∧ Later w w'
set_option maxRecDepth 20000 in
set_option maxHeartbeats 1000000 in
theorem fuint_any (u : Nat) (w : World) (hu : u < 18446744073709551616) (hg : 6 < w.heap.size) (h : w.cell? ⟨6, 15, none⟩ = some (.int .u8 4)) : Calls Tryd.prog 50 #[.int .u64 (u : Int), .int .i64 16] w (H16 u w) := by
  have hB := bits16_any u w hu hg h
  have hA : Calls Tryd.prog 63 #[.int .u64 (u : Int), .int .i64 16] w (H16 u w) := by
    go_enter Tryd.func63, Tryd.ntmps63
    go_wp2_with (go_at_call 78; refine hB.mono ?_; rintro e w2 ⟨s, m, rfl, h1, h2, h3, h4, h5⟩)
    have HB : Hid (H16 u w (.returned (.string s)) w2) := ⟨s, m, rfl, h1, h2, h3, h4, h5⟩
    go_ret
    exact HB.out
  clear hB
  go_enter Tryd.func50, Tryd.ntmps50
  go_wp2_with (go_at_call 63; refine hA.mono ?_; rintro e w2 ⟨s, m, rfl, h1, h2, h3, h4, h5⟩)
  have HB : Hid (H16 u w (.returned (.string s)) w2) := ⟨s, m, rfl, h1, h2, h3, h4, h5⟩
  go_ret
  exact HB.out
theorem hexF_zeros : ∀ (m d u : Nat), u < 16 ^ m → hexF (m + d) u = List.replicate d 48 ++ hexF m u
  | m, 0, u, _ => rfl
  | m, d + 1, u, h => by
    rw [← Nat.add_assoc, hexF_cons, hexF_zeros m d u h, List.replicate_succ]
    have : u / 16 ^ (m + d) = 0 := Nat.div_eq_of_lt (Nat.lt_of_lt_of_le h (Nat.pow_le_pow_right (by decide) (by omega)))
    rw [this]
    rfl
theorem bytesOf_app (a b : ByteArray) : bytesOf (a ++ b) = bytesOf a ++ bytesOf b := by
  unfold bytesOf
  rw [ByteArray.data_append, Array.toList_append, List.map_append]
set_option maxRecDepth 20000 in
set_option maxHeartbeats 1000000 in
theorem flo_any (n : Int) (w : World) (hg : 6 < w.heap.size) (h : w.cell? ⟨6, 15, none⟩ = some (.int .u8 4)) : Calls Tryd.prog 41 #[.int .i64 n] w (StrL w (hexL n)) := by
  obtain ⟨u, hu⟩ : ∃ u : Nat, (n % 18446744073709551616).toNat = u := ⟨_, rfl⟩
  have e1 : IntKind.u64.wrap n = (u : Int) := by rw [IntKind.wrap_u64]; omega
  have hu64 : u < 18446744073709551616 := by omega
  have eL : Hid (hexL n = [48, 102] ++ hexF 16 u) := by show hexL n = _; unfold hexL; rw [hu]
  have hF := fuint_any u w hu64 hg h
  clear hu h hg
  go_enter Tryd.func41, Tryd.ntmps41
  go_wp2_with fail
  refine hF.mono ?_
  rintro e w2 ⟨s, m, rfl, h1, h2, h3, h4, h5⟩
  have hsz : s.size = m := by rw [← bytesOf_len, h4, hexF_len]
  have hsm : (16 : Int) - (m : Int) = ((16 - m : Nat) : Int) := by omega
  have hR := Tryd.strings_Repeat ⟨#[48]⟩ (16 - m) w2 (by omega) (by show 1 * (16 - m) ≤ _; omega)
  rw [← hsm] at hR
  have hm16 : 16 = m + (16 - m) := by omega
  have hz := hexF_zeros m (16 - m) u h3
  rw [← hm16] at hz
  clear hsm hm16
  go_wp2_with fail
  refine hR.mono ?_
  rintro e w3 ⟨rfl, hw3⟩
  have HB : Hid (∀ s', bytesOf s' = [48, 102] ++ List.replicate (16 - m) 48 ++ bytesOf s → StrL w (hexL n) (.returned (.string s')) w3) := fun s' hs' => ⟨s', rfl, by rw [hs', eL.out, hz, h4, List.append_assoc], h5.trans hw3⟩
  have hrep : ∀ c, (repeatL [48] c).map (fun b => (b.toNat : Int)) = List.replicate c 48 := fun c => by
    induction c with
    | zero => rfl
    | succ c ih => rw [repeatL, List.map_append, ih, List.replicate_succ]; rfl
  have hrl : (repeatL [48] (16 - m)).length = 16 - m := by rw [repeatL_length]; simp
  obtain ⟨Z, hZ⟩ := hid_ex (⟨(repeatL [48] (16 - m)).toArray⟩ : ByteArray)
  have hZs : Z.size ≤ 16 := by rw [hZ.out]; show (repeatL [48] (16 - m)).toArray.size ≤ 16; rw [List.size_toArray, hrl]; omega
  have hZb : Hid (bytesOf Z = List.replicate (16 - m) 48) := by show _ = _; rw [hZ.out, ← hrep (16 - m)]; unfold bytesOf; simp
  have HB' : Hid (StrL w (hexL n) (.returned (.string ((⟨#[48, 102]⟩ : ByteArray) ++ Z ++ s))) w3) := HB.out _ (by rw [bytesOf_app, bytesOf_app, hZb.out]; rfl)
  have d1 : ¬ 9223372036854775807 < 2 + Z.size := by omega
  have d2 : ¬ 9223372036854775807 < 2 + Z.size + m := by omega
  clear hR hz h1 h3 hF HB hrep hrl
  rw [← hZ.out]
  generalize hQ : StrL w (hexL n) = Q at *
  clear hQ
  go_wp2_with fail
  exact HB'.out
end Go.Proofs.YtleakieppapjmaaDoor
