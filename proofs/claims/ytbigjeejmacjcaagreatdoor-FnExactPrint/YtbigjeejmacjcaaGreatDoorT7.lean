/- Words and names, by the model and by the program. -/
import Derived.Test.YtbigjeejmacjcaaGreatDoorT6
import Derived.Test.YtbigjeejmacjcaaGreatDoorK5
import Derived.Laws.BytesArg
namespace Go.Proofs.YtbigjeejmacjcaaGreatDoor
open Go.RowKit

theorem conv_str {w : World} {v : Value} {zs : List Int} (h : RdB w v zs) : ∀ w', Later w w' → (convert 27 9 v).run Tryz.prog w' = .ok (.string (strOfNums zs)) w' := by
  intro w' hl
  obtain ⟨a, cap, rfl, _, _, hc⟩ := h.later hl
  rcases Nat.eq_zero_or_pos zs.length with h0 | h0
  · have : zs = [] := List.eq_nil_of_length_eq_zero h0
    subst this
    cases a with
    | none => exact run_convert_bytes_nil w' 27 5 Tryz.underlying27 Tryz.underlying5 0 cap 9 Tryz.underlying9
    | some x =>
      obtain ⟨b, off, sp⟩ := x
      rw [run_convert_bytes_string w' 27 9 5 _ _ cap Tryz.underlying27 Tryz.underlying5 Tryz.underlying9, run_bytesToString w' _ _ cap [] (by simpa using run_loadCells_list (P := Tryz.prog) w' ⟨b, off, sp⟩ [] (fun j v h => by simp at h))]
      rfl
  · obtain ⟨g, off, rfl, _, _⟩ := hc 0 h0
    refine run_convert_bytes_arg w' 27 5 Tryz.underlying27 Tryz.underlying5 g off zs.length cap zs rfl (fun i hi => ?_) 9 Tryz.underlying9
    obtain ⟨_, _, he, _, hv⟩ := hc i hi
    cases he
    exact hv
theorem conv_here {w : World} {v : Value} {zs : List Int} (h : RdB w v zs) : (convert 27 9 v).run Tryz.prog w = .ok (.string (strOfNums zs)) w := conv_str h w (Later.refl _)
/-- Bytes as a string tell the bytes. -/
theorem str_inj {xs ys : List Int} (hx : ∀ j, isB (xs.getD j 0)) (hy : ∀ j, isB (ys.getD j 0)) : ((strOfNums xs).toList == (strOfNums ys).toList) = decide (xs = ys) := by
  have e : ∀ zs : List Int, (strOfNums zs).toList = zs.map fun n => UInt8.ofNat n.toNat := fun zs => by
    rw [ByteArray.toList_eq]
    exact strOfNums_data zs
  rw [e, e, Bool.eq_iff_iff, beq_iff_eq, decide_eq_true_eq]
  constructor
  · intro h
    have hl : xs.length = ys.length := by simpa using congrArg List.length h
    refine eq_of_getD hl (fun j hj => ?_)
    have h1 := congrArg (fun l => l[j]?) h
    simp only [List.getElem?_map, List.getElem?_eq_getElem hj, List.getElem?_eq_getElem (show j < ys.length by omega), Option.map_some, Option.some.injEq] at h1
    have a := hx j
    have b := hy j
    rw [List.getD_eq_getElem?_getD, List.getElem?_eq_getElem hj] at a ⊢
    rw [List.getD_eq_getElem?_getD, List.getElem?_eq_getElem (show j < ys.length by omega)] at b ⊢
    simp only [Option.getD_some] at a b ⊢
    unfold isB at a b
    have h2 := congrArg UInt8.toNat h1
    rw [UInt8.toNat_ofNat', UInt8.toNat_ofNat'] at h2
    omega
  · intro h; rw [h]

/-- The key words. -/
def keyLs : List (List Int) := [[116, 121, 112, 101], [115, 116, 114, 117, 99, 116], [102, 117, 110, 99], [118, 97, 114], [105, 102], [101, 108, 115, 101], [102, 111, 114], [114, 101, 116, 117, 114, 110], [112, 114, 105, 110, 116], [112, 97, 110, 105, 99], [100, 111], [105, 110, 116], [102, 108, 111, 97, 116], [110, 105, 108], [110, 101, 119], [109, 97, 107, 101], [108, 101, 110], [114, 101, 97, 100]]
def keyL (zs : List Int) : Bool := keyLs.contains zs
def nameL (zs : List Int) : Bool := wordL zs false && !keyL zs
theorem RdB.isB {w : World} {v : Value} {zs : List Int} (h : RdB w v zs) : ∀ j, Proofs.YtbigjeejmacjcaaGreatDoor.isB (zs.getD j 0) := by obtain ⟨_, _, _, _, hb, _⟩ := h; exact hb

set_option maxHeartbeats 1000000 in
theorem is_any (v : Value) (zs ys : List Int) (w : World) (h : RdB w v zs) (hy : ∀ j, isB (ys.getD j 0)) : Calls Tryz.prog 94 #[v, .string (strOfNums ys)] w fun e w' => e = .returned (.bool (decide (zs = ys))) ∧ w' = w := by
  have hc := conv_here h
  have hs := str_inj h.isB hy
  obtain ⟨a, cap, rfl, _⟩ := h.slice
  clear h hy
  go_enter Tryz.func94, Tryz.ntmps94
  go_wp2_with fail
  go_ret
  exact ⟨rfl, rfl⟩
theorem str_lit {zs ys : List Int} {ls : List UInt8} (hx : ∀ j, isB (zs.getD j 0)) (hy : ∀ j, isB (ys.getD j 0)) (e : ys.map (fun n => UInt8.ofNat n.toNat) = ls) : ((strOfNums zs).toList == ls) = decide (zs = ys) := by
  rw [← str_inj hx hy, ← e]
  congr 1
  rw [ByteArray.toList_eq]
  exact (strOfNums_data ys).symm
theorem isB_of {ys : List Int} (h : ys.all (fun z => decide (0 ≤ z) && decide (z ≤ 255)) = true) : ∀ j, isB (ys.getD j 0) := by
  intro j
  rcases Nat.lt_or_ge j ys.length with l | l
  · rw [List.getD_eq_getElem?_getD, List.getElem?_eq_getElem l]
    have := List.all_eq_true.1 h _ (List.getElem_mem l)
    rw [Bool.and_eq_true, decide_eq_true_eq, decide_eq_true_eq] at this
    exact this
  · rw [List.getD_eq_getElem?_getD, List.getElem?_eq_none l]
    exact ⟨by simp, by simp⟩
set_option maxRecDepth 20000 in
set_option maxHeartbeats 4000000 in
theorem ikey_any (v : Value) (zs : List Int) (w : World) (h : RdB w v zs) : Calls Tryz.prog 84 #[v] w fun e w' => e = .returned (.bool (keyL zs)) ∧ w' = w := by
  have hc := conv_here h
  have hb := h.isB
  obtain ⟨a, cap, rfl, _⟩ := h.slice
  clear h
  have t0 := str_lit (ls := [116, 121, 112, 101]) hb (isB_of (ys := [116, 121, 112, 101]) (by decide)) rfl
  by_cases q0 : zs = [116, 121, 112, 101]
  · have e0 := t0.trans (decide_eq_true q0)
    have ek : keyL zs = true := by rw [q0]; decide
    rw [ek]
    clear t0 q0 hb ek
    go_enter Tryz.func84, Tryz.ntmps84
    go_wp2_with fail
    go_ret
    exact ⟨rfl, rfl⟩
  have e0 := t0.trans (decide_eq_false q0)
  clear t0
  have t1 := str_lit (ls := [115, 116, 114, 117, 99, 116]) hb (isB_of (ys := [115, 116, 114, 117, 99, 116]) (by decide)) rfl
  by_cases q1 : zs = [115, 116, 114, 117, 99, 116]
  · have e1 := t1.trans (decide_eq_true q1)
    have ek : keyL zs = true := by rw [q1]; decide
    rw [ek]
    clear t1 q1 hb ek
    go_enter Tryz.func84, Tryz.ntmps84
    go_wp2_with fail
    go_ret
    exact ⟨rfl, rfl⟩
  have e1 := t1.trans (decide_eq_false q1)
  clear t1
  have t2 := str_lit (ls := [102, 117, 110, 99]) hb (isB_of (ys := [102, 117, 110, 99]) (by decide)) rfl
  by_cases q2 : zs = [102, 117, 110, 99]
  · have e2 := t2.trans (decide_eq_true q2)
    have ek : keyL zs = true := by rw [q2]; decide
    rw [ek]
    clear t2 q2 hb ek
    go_enter Tryz.func84, Tryz.ntmps84
    go_wp2_with fail
    go_ret
    exact ⟨rfl, rfl⟩
  have e2 := t2.trans (decide_eq_false q2)
  clear t2
  have t3 := str_lit (ls := [118, 97, 114]) hb (isB_of (ys := [118, 97, 114]) (by decide)) rfl
  by_cases q3 : zs = [118, 97, 114]
  · have e3 := t3.trans (decide_eq_true q3)
    have ek : keyL zs = true := by rw [q3]; decide
    rw [ek]
    clear t3 q3 hb ek
    go_enter Tryz.func84, Tryz.ntmps84
    go_wp2_with fail
    go_ret
    exact ⟨rfl, rfl⟩
  have e3 := t3.trans (decide_eq_false q3)
  clear t3
  have t4 := str_lit (ls := [105, 102]) hb (isB_of (ys := [105, 102]) (by decide)) rfl
  by_cases q4 : zs = [105, 102]
  · have e4 := t4.trans (decide_eq_true q4)
    have ek : keyL zs = true := by rw [q4]; decide
    rw [ek]
    clear t4 q4 hb ek
    go_enter Tryz.func84, Tryz.ntmps84
    go_wp2_with fail
    go_ret
    exact ⟨rfl, rfl⟩
  have e4 := t4.trans (decide_eq_false q4)
  clear t4
  have t5 := str_lit (ls := [101, 108, 115, 101]) hb (isB_of (ys := [101, 108, 115, 101]) (by decide)) rfl
  by_cases q5 : zs = [101, 108, 115, 101]
  · have e5 := t5.trans (decide_eq_true q5)
    have ek : keyL zs = true := by rw [q5]; decide
    rw [ek]
    clear t5 q5 hb ek
    go_enter Tryz.func84, Tryz.ntmps84
    go_wp2_with fail
    go_ret
    exact ⟨rfl, rfl⟩
  have e5 := t5.trans (decide_eq_false q5)
  clear t5
  have t6 := str_lit (ls := [102, 111, 114]) hb (isB_of (ys := [102, 111, 114]) (by decide)) rfl
  by_cases q6 : zs = [102, 111, 114]
  · have e6 := t6.trans (decide_eq_true q6)
    have ek : keyL zs = true := by rw [q6]; decide
    rw [ek]
    clear t6 q6 hb ek
    go_enter Tryz.func84, Tryz.ntmps84
    go_wp2_with fail
    go_ret
    exact ⟨rfl, rfl⟩
  have e6 := t6.trans (decide_eq_false q6)
  clear t6
  have t7 := str_lit (ls := [114, 101, 116, 117, 114, 110]) hb (isB_of (ys := [114, 101, 116, 117, 114, 110]) (by decide)) rfl
  by_cases q7 : zs = [114, 101, 116, 117, 114, 110]
  · have e7 := t7.trans (decide_eq_true q7)
    have ek : keyL zs = true := by rw [q7]; decide
    rw [ek]
    clear t7 q7 hb ek
    go_enter Tryz.func84, Tryz.ntmps84
    go_wp2_with fail
    go_ret
    exact ⟨rfl, rfl⟩
  have e7 := t7.trans (decide_eq_false q7)
  clear t7
  have t8 := str_lit (ls := [112, 114, 105, 110, 116]) hb (isB_of (ys := [112, 114, 105, 110, 116]) (by decide)) rfl
  by_cases q8 : zs = [112, 114, 105, 110, 116]
  · have e8 := t8.trans (decide_eq_true q8)
    have ek : keyL zs = true := by rw [q8]; decide
    rw [ek]
    clear t8 q8 hb ek
    go_enter Tryz.func84, Tryz.ntmps84
    go_wp2_with fail
    go_ret
    exact ⟨rfl, rfl⟩
  have e8 := t8.trans (decide_eq_false q8)
  clear t8
  have t9 := str_lit (ls := [112, 97, 110, 105, 99]) hb (isB_of (ys := [112, 97, 110, 105, 99]) (by decide)) rfl
  by_cases q9 : zs = [112, 97, 110, 105, 99]
  · have e9 := t9.trans (decide_eq_true q9)
    have ek : keyL zs = true := by rw [q9]; decide
    rw [ek]
    clear t9 q9 hb ek
    go_enter Tryz.func84, Tryz.ntmps84
    go_wp2_with fail
    go_ret
    exact ⟨rfl, rfl⟩
  have e9 := t9.trans (decide_eq_false q9)
  clear t9
  have t10 := str_lit (ls := [100, 111]) hb (isB_of (ys := [100, 111]) (by decide)) rfl
  by_cases q10 : zs = [100, 111]
  · have e10 := t10.trans (decide_eq_true q10)
    have ek : keyL zs = true := by rw [q10]; decide
    rw [ek]
    clear t10 q10 hb ek
    go_enter Tryz.func84, Tryz.ntmps84
    go_wp2_with fail
    go_ret
    exact ⟨rfl, rfl⟩
  have e10 := t10.trans (decide_eq_false q10)
  clear t10
  have t11 := str_lit (ls := [105, 110, 116]) hb (isB_of (ys := [105, 110, 116]) (by decide)) rfl
  by_cases q11 : zs = [105, 110, 116]
  · have e11 := t11.trans (decide_eq_true q11)
    have ek : keyL zs = true := by rw [q11]; decide
    rw [ek]
    clear t11 q11 hb ek
    go_enter Tryz.func84, Tryz.ntmps84
    go_wp2_with fail
    go_ret
    exact ⟨rfl, rfl⟩
  have e11 := t11.trans (decide_eq_false q11)
  clear t11
  have t12 := str_lit (ls := [102, 108, 111, 97, 116]) hb (isB_of (ys := [102, 108, 111, 97, 116]) (by decide)) rfl
  by_cases q12 : zs = [102, 108, 111, 97, 116]
  · have e12 := t12.trans (decide_eq_true q12)
    have ek : keyL zs = true := by rw [q12]; decide
    rw [ek]
    clear t12 q12 hb ek
    go_enter Tryz.func84, Tryz.ntmps84
    go_wp2_with fail
    go_ret
    exact ⟨rfl, rfl⟩
  have e12 := t12.trans (decide_eq_false q12)
  clear t12
  have t13 := str_lit (ls := [110, 105, 108]) hb (isB_of (ys := [110, 105, 108]) (by decide)) rfl
  by_cases q13 : zs = [110, 105, 108]
  · have e13 := t13.trans (decide_eq_true q13)
    have ek : keyL zs = true := by rw [q13]; decide
    rw [ek]
    clear t13 q13 hb ek
    go_enter Tryz.func84, Tryz.ntmps84
    go_wp2_with fail
    go_ret
    exact ⟨rfl, rfl⟩
  have e13 := t13.trans (decide_eq_false q13)
  clear t13
  have t14 := str_lit (ls := [110, 101, 119]) hb (isB_of (ys := [110, 101, 119]) (by decide)) rfl
  by_cases q14 : zs = [110, 101, 119]
  · have e14 := t14.trans (decide_eq_true q14)
    have ek : keyL zs = true := by rw [q14]; decide
    rw [ek]
    clear t14 q14 hb ek
    go_enter Tryz.func84, Tryz.ntmps84
    go_wp2_with fail
    go_ret
    exact ⟨rfl, rfl⟩
  have e14 := t14.trans (decide_eq_false q14)
  clear t14
  have t15 := str_lit (ls := [109, 97, 107, 101]) hb (isB_of (ys := [109, 97, 107, 101]) (by decide)) rfl
  by_cases q15 : zs = [109, 97, 107, 101]
  · have e15 := t15.trans (decide_eq_true q15)
    have ek : keyL zs = true := by rw [q15]; decide
    rw [ek]
    clear t15 q15 hb ek
    go_enter Tryz.func84, Tryz.ntmps84
    go_wp2_with fail
    go_ret
    exact ⟨rfl, rfl⟩
  have e15 := t15.trans (decide_eq_false q15)
  clear t15
  have t16 := str_lit (ls := [108, 101, 110]) hb (isB_of (ys := [108, 101, 110]) (by decide)) rfl
  by_cases q16 : zs = [108, 101, 110]
  · have e16 := t16.trans (decide_eq_true q16)
    have ek : keyL zs = true := by rw [q16]; decide
    rw [ek]
    clear t16 q16 hb ek
    go_enter Tryz.func84, Tryz.ntmps84
    go_wp2_with fail
    go_ret
    exact ⟨rfl, rfl⟩
  have e16 := t16.trans (decide_eq_false q16)
  clear t16
  have t17 := str_lit (ls := [114, 101, 97, 100]) hb (isB_of (ys := [114, 101, 97, 100]) (by decide)) rfl
  by_cases q17 : zs = [114, 101, 97, 100]
  · have e17 := t17.trans (decide_eq_true q17)
    have ek : keyL zs = true := by rw [q17]; decide
    rw [ek]
    clear t17 q17 hb ek
    go_enter Tryz.func84, Tryz.ntmps84
    go_wp2_with fail
    go_ret
    exact ⟨rfl, rfl⟩
  have e17 := t17.trans (decide_eq_false q17)
  clear t17
  have ek : keyL zs = false := by
    unfold keyL
    rw [← Bool.not_eq_true, List.contains_iff_mem]
    unfold keyLs
    simp only [List.mem_cons, List.not_mem_nil, or_false]
    rintro (h | h | h | h | h | h | h | h | h | h | h | h | h | h | h | h | h | h) <;> contradiction
  rw [ek]
  clear hb ek q0 q1 q2 q3 q4 q5 q6 q7 q8 q9 q10 q11 q12 q13 q14 q15 q16 q17
  go_enter Tryz.func84, Tryz.ntmps84
  go_wp2_with fail
  go_ret
  exact ⟨rfl, rfl⟩

theorem keys_any (w : World) : Calls Tryz.prog 93 #[] w fun e w' => e = .returned (.slice (some ⟨w.heap.size, 0, none⟩) 18 18) ∧ w' = w.alloc (.cells (keyLs.map fun k => Value.string (strOfNums k)).toArray 9) := by
  go_enter Tryz.func93, Tryz.ntmps93
  go_wp2_with fail
  go_ret
  exact ⟨rfl, rfl⟩
theorem keyLs_isB : ∀ k, k < 18 → ∀ j, isB ((keyLs.getD k []).getD j 0) := by
  intro k hk
  refine isB_of ?_
  have : ∀ k, k < 18 → (keyLs.getD k []).all (fun z => decide (0 ≤ z) && decide (z ≤ 255)) = true := by decide
  exact this k hk
set_option maxRecDepth 20000 in
set_option maxHeartbeats 1000000 in
theorem key_any (v : Value) (zs : List Int) (w : World) (h : RdB w v zs) : Calls Tryz.prog 72 #[v] w fun e w' => e = .returned (.bool (keyL zs)) ∧ Later w w' := by
  obtain ⟨a, cap, rfl, _⟩ := h.slice
  go_enter Tryz.func72, Tryz.ntmps72
  go_wp2_with fail
  refine (keys_any w).mono ?_
  rintro e w1 ⟨rfl, hw1⟩
  have l1 : Later w w1 := by rw [hw1]; exact later1 _ _
  have hcell : Hid (∀ k, k < 18 → w1.cell? ⟨w.heap.size, k, none⟩ = some (.string (strOfNums (keyLs.getD k [])))) := fun k hk => by
    rw [hw1]
    have e : (w.alloc (.cells (keyLs.map fun k => Value.string (strOfNums k)).toArray 9)).cell? ⟨w.heap.size, k, none⟩ = (keyLs.map fun k => Value.string (strOfNums k)).toArray[k]? := by simp
    rw [e, List.getElem?_toArray, List.getElem?_map, List.getD_eq_getElem?_getD, List.getElem?_eq_getElem (show k < keyLs.length from hk)]
    rfl
  clear hw1
  go_wp2_with fail
  go_loop [4] (fun i => ∃ k : Nat, i = .int .i64 (k : Int) ∧ k ≤ 18 ∧ Hid (∀ j, j < k → zs ≠ keyLs.getD j [])) (fun i => 18 - (intOf i).toNat)
  case atStart => exact ⟨0, rfl, by decide, fun j hj => absurd hj (Nat.not_lt_zero _)⟩
  case round =>
    obtain ⟨k, rfl, hk, hall⟩ := hrel
    by_cases hlt : k < 18
    · have i1 : (k : Int) < 18 := by omega
      have hv := hcell.out k hlt
      have hi := is_any _ zs (keyLs.getD k []) w1 (h.later l1) (keyLs_isB k hlt)
      by_cases q : zs = keyLs.getD k []
      · have ek : keyL zs = true := by
          unfold keyL
          rw [List.contains_iff_mem, q, List.getD_eq_getElem?_getD, List.getElem?_eq_getElem (show k < keyLs.length from hlt)]
          exact List.getElem_mem _
        have HK : Hid (keyL zs = true) := ek
        rw [decide_eq_true q] at hi
        clear ek q hall
        generalize keyLs.getD k [] = kw at *
        go_wp2_with fail
        refine hi.mono ?_
        rintro e w2 ⟨rfl, hww⟩
        obtain rfl := hww.symm
        go_wp2_with fail
        go_ret
        exact ⟨ret_bool HK.out.symm, l1⟩
      · rw [decide_eq_false q] at hi
        have HN : Hid (∀ j, j < k + 1 → zs ≠ keyLs.getD j []) := fun j hj => by
          rcases Nat.lt_or_ge j k with a | a
          · exact hall.out j a
          · have : j = k := by omega
            rw [this]; exact q
        clear q hall
        generalize keyLs.getD k [] = kw at *
        go_wp2_with fail
        refine hi.mono ?_
        rintro e w2 ⟨rfl, hww⟩
        obtain rfl := hww.symm
        go_wp2_with fail
        go_round
        case rel => exact ⟨k + 1, by go_num, by omega, HN⟩
        case measure => simp [intOf]; omega
    · have i1 : ¬ (k : Int) < 18 := by omega
      have hkk : k = 18 := by omega
      subst hkk
      have HK : Hid (keyL zs = false) := show _ = _ by
        unfold keyL
        rw [← Bool.not_eq_true, List.contains_iff_mem]
        intro hm
        obtain ⟨j, hj, e⟩ := List.mem_iff_getElem.1 hm
        refine hall.out j hj ?_
        rw [List.getD_eq_getElem?_getD, List.getElem?_eq_getElem hj, ← e]
        rfl
      clear hall
      go_wp2_with fail
      go_ret
      exact ⟨ret_bool HK.out.symm, l1⟩

theorem name_any (v : Value) (zs : List Int) (w : World) (h : RdB w v zs) : Calls Tryz.prog 50 #[v] w fun e w' => e = .returned (.bool (nameL zs)) ∧ Later w w' := by
  have hw := word_any v zs false w h
  have hk := key_any v zs w h
  obtain ⟨a, cap, rfl, _⟩ := h.slice
  unfold nameL
  cases q : wordL zs false
  · rw [q] at hw
    go_enter Tryz.func50, Tryz.ntmps50
    go_wp2_with (go_at_call 47; refine hw.mono ?_; rintro e w1 ⟨rfl, hww⟩; obtain rfl := hww.symm)
    go_ret
    exact ⟨rfl, Later.refl _⟩
  · rw [q] at hw
    go_enter Tryz.func50, Tryz.ntmps50
    go_wp2_with (first | (go_at_call 47; refine hw.mono ?_; rintro e w1 ⟨rfl, hww⟩; obtain rfl := hww.symm) | (go_at_call 72; refine hk.mono ?_; rintro e w1 ⟨rfl, l1⟩))
    go_ret
    exact ⟨rfl, l1⟩

end Go.Proofs.YtbigjeejmacjcaaGreatDoor
