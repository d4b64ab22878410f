/- Marks read back. -/
import Derived.Test.YtlfkjjnhlkaipaaX3m
import Derived.Deep.RegionWith
namespace Go.Proofs.Ytlfkjjnhlkaipaa
open Go.RowKit

theorem mks_at {X : Type} (mk1 : Int → X → X) (c1 : X → Nat) : ∀ (k : Int) (l : List X) (j : Nat) (h : j < l.length) (h' : j < (mks mk1 c1 k l).length), (mks mk1 c1 k l)[j] = mk1 (k + cnt c1 (l.take j)) l[j]
  | k, x :: r, 0, _, _ => by simp [mks, cnt]
  | k, x :: r, j + 1, h, h' => by
    have ih := mks_at mk1 c1 (k + c1 x) r j (by simpa using h) (by rw [mks_len]; simpa using h)
    simp only [mks, List.getElem_cons_succ, ih, List.take_succ_cons, cnt]
    congr 1
    omega
set_option maxHeartbeats 2000000 in
theorem heldIns_x (v : Value) (l : List In) (k : Int) (w : World) (h : RdL w 1 v (In.dats (mks In.mk1 In.c1 k l))) (h0 : 0 ≤ k) (h1 : k + cnt In.c1 l ≤ 4611686018427387904) :
    Calls Try.prog 87 #[v, .int .i64 k] w fun e w' => e = .returned (.int .i64 (k + cnt In.c1 l)) ∧ Later w w' := by
  have hcl : ∀ j, j ≤ l.length → cnt In.c1 (l.take j) ≤ cnt In.c1 l := fun j hj => by
    have := cnt_app In.c1 (l.take j) (l.drop j)
    rw [List.take_append_drop] at this
    omega
  have HZ : Hid (∀ w' k', k' = k + cnt In.c1 l → Later w w' → (Ending.returned (.int .i64 k') = .returned (.int .i64 (k + cnt In.c1 l)) ∧ Later w w')) := fun w' k' e q => ⟨by rw [e], q⟩
  obtain ⟨a, cap, hv, hl⟩ := In.slice h
  rw [mks_len] at hv hl
  subst hv
  go_enter Try.func87, Try.ntmps87
  go_wp2_with fail
  go_loopw [1, 5] (fun kv i wr => ∃ (j : Nat) (kk : Int), kv = .int .i64 kk ∧ i = .int .i64 (j : Int) ∧ j ≤ l.length ∧ Later w wr ∧ Hid (kk = k + cnt In.c1 (l.take j))) (fun _ i _ => l.length - (intOf i).toNat)
  case atStart => exact ⟨0, k, rfl, rfl, Nat.zero_le _, Later.refl _, by show k = k + ((0 : Nat) : Int); omega⟩
  case round =>
    obtain ⟨j, kk, rfl, rfl, hj, lR, HK⟩ := hrel
    by_cases hlt : j < l.length
    · have hi : (j : Int) < (l.length : Int) := by omega
      have hml : j < (mks In.mk1 In.c1 k l).length := by rw [mks_len]; exact hlt
      obtain ⟨g, off, rfl, hg, c0⟩ := In.elem (RdL.later lR h) j hml
      rw [mks_at _ _ _ _ _ hlt, ← HK.out] at c0 
      have hcs := cnt_succ In.c1 hlt
      have hcb := hcl (j + 1) (by omega)
      have kk0 : 0 ≤ kk := by rw [HK.out]; omega
      have hce : ((In.c1 l[j] : Nat) : Int) = (0 + 1 : Int) := by unfold In.c1; omega
      have kk1 : kk + 1 ≤ 4611686018427387904 := by have := HK.out; omega
      have HEND : Hid (kk + 1 = k + cnt In.c1 (l.take (j + 1))) := by show _ = _; have := HK.out; omega
      replace c0 : wr.cell? ⟨g, off + j, none⟩ = some (.int .i64 kk) := c0
      clear h hcl HZ  hce
      go_wp2_with fail
      go_roundw
      case rel => exact ⟨j + 1, _, rfl, by go_num, by omega, lR, by have := HEND.out; show _ = _; omega⟩
      case measure => simp [intOf]; omega
    · have hlt' : decide ((j : Int) < (l.length : Int)) = false := by simp; omega
      have hjn : j = l.length := by omega
      subst hjn
      have HQ := HZ.out wr kk (by have := HK.out; rw [List.take_length] at this; exact this) lR
      clear HZ h hcl HK
      go_wp2_with fail
      go_ret
      exact HQ
set_option maxHeartbeats 2000000 in
theorem heldBos_x (v : Value) (l : List Bo) (k : Int) (w : World) (h : RdL w 1 v (Bo.dats (mks Bo.mk1 Bo.c1 k l))) (h0 : 0 ≤ k) (h1 : k + cnt Bo.c1 l ≤ 4611686018427387904) :
    Calls Try.prog 62 #[v, .int .i64 k] w fun e w' => e = .returned (.int .i64 (k + cnt Bo.c1 l)) ∧ Later w w' := by
  have hcl : ∀ j, j ≤ l.length → cnt Bo.c1 (l.take j) ≤ cnt Bo.c1 l := fun j hj => by
    have := cnt_app Bo.c1 (l.take j) (l.drop j)
    rw [List.take_append_drop] at this
    omega
  have HZ : Hid (∀ w' k', k' = k + cnt Bo.c1 l → Later w w' → (Ending.returned (.int .i64 k') = .returned (.int .i64 (k + cnt Bo.c1 l)) ∧ Later w w')) := fun w' k' e q => ⟨by rw [e], q⟩
  obtain ⟨a, cap, hv, hl⟩ := Bo.slice h
  rw [mks_len] at hv hl
  subst hv
  go_enter Try.func62, Try.ntmps62
  go_wp2_with fail
  go_loopw [1, 5] (fun kv i wr => ∃ (j : Nat) (kk : Int), kv = .int .i64 kk ∧ i = .int .i64 (j : Int) ∧ j ≤ l.length ∧ Later w wr ∧ Hid (kk = k + cnt Bo.c1 (l.take j))) (fun _ i _ => l.length - (intOf i).toNat)
  case atStart => exact ⟨0, k, rfl, rfl, Nat.zero_le _, Later.refl _, by show k = k + ((0 : Nat) : Int); omega⟩
  case round =>
    obtain ⟨j, kk, rfl, rfl, hj, lR, HK⟩ := hrel
    by_cases hlt : j < l.length
    · have hi : (j : Int) < (l.length : Int) := by omega
      have hml : j < (mks Bo.mk1 Bo.c1 k l).length := by rw [mks_len]; exact hlt
      obtain ⟨g, off, rfl, hg, c0⟩ := Bo.elem (RdL.later lR h) j hml
      rw [mks_at _ _ _ _ _ hlt, ← HK.out] at c0 
      have hcs := cnt_succ Bo.c1 hlt
      have hcb := hcl (j + 1) (by omega)
      have kk0 : 0 ≤ kk := by rw [HK.out]; omega
      have hce : ((Bo.c1 l[j] : Nat) : Int) = (0 + 1 : Int) := by unfold Bo.c1; omega
      have kk1 : kk + 1 ≤ 4611686018427387904 := by have := HK.out; omega
      have HEND : Hid (kk + 1 = k + cnt Bo.c1 (l.take (j + 1))) := by show _ = _; have := HK.out; omega
      replace c0 : wr.cell? ⟨g, off + j, none⟩ = some (.bool (kk % 3 == 0)) := c0
      clear h hcl HZ  hce
      go_wp2_with fail
      go_roundw
      case rel => exact ⟨j + 1, _, rfl, by go_num, by omega, lR, by have := HEND.out; show _ = _; omega⟩
      case measure => simp [intOf]; omega
    · have hlt' : decide ((j : Int) < (l.length : Int)) = false := by simp; omega
      have hjn : j = l.length := by omega
      subst hjn
      have HQ := HZ.out wr kk (by have := HK.out; rw [List.take_length] at this; exact this) lR
      clear HZ h hcl HK
      go_wp2_with fail
      go_ret
      exact HQ
set_option maxHeartbeats 2000000 in
theorem heldIss_x (v : Value) (l : List Is) (k : Int) (w : World) (h : RdL w 5 v (Is.dats (mks Is.mk1 Is.c1 k l))) (h0 : 0 ≤ k) (h1 : k + cnt Is.c1 l ≤ 4611686018427387904) :
    Calls Try.prog 63 #[v, .int .i64 k] w fun e w' => e = .returned (.int .i64 (k + cnt Is.c1 l)) ∧ Later w w' := by
  have hcl : ∀ j, j ≤ l.length → cnt Is.c1 (l.take j) ≤ cnt Is.c1 l := fun j hj => by
    have := cnt_app Is.c1 (l.take j) (l.drop j)
    rw [List.take_append_drop] at this
    omega
  have HZ : Hid (∀ w' k', k' = k + cnt Is.c1 l → Later w w' → (Ending.returned (.int .i64 k') = .returned (.int .i64 (k + cnt Is.c1 l)) ∧ Later w w')) := fun w' k' e q => ⟨by rw [e], q⟩
  obtain ⟨a, cap, hv, hl⟩ := Is.slice h
  rw [mks_len] at hv hl
  subst hv
  go_enter Try.func63, Try.ntmps63
  go_wp2_with fail
  go_loopw [1, 5] (fun kv i wr => ∃ (j : Nat) (kk : Int), kv = .int .i64 kk ∧ i = .int .i64 (j : Int) ∧ j ≤ l.length ∧ Later w wr ∧ Hid (kk = k + cnt Is.c1 (l.take j))) (fun _ i _ => l.length - (intOf i).toNat)
  case atStart => exact ⟨0, k, rfl, rfl, Nat.zero_le _, Later.refl _, by show k = k + ((0 : Nat) : Int); omega⟩
  case round =>
    obtain ⟨j, kk, rfl, rfl, hj, lR, HK⟩ := hrel
    by_cases hlt : j < l.length
    · have hi : (j : Int) < (l.length : Int) := by omega
      have hml : j < (mks Is.mk1 Is.c1 k l).length := by rw [mks_len]; exact hlt
      obtain ⟨g, off, rfl, hg, c0, c1, c2, c3, c4⟩ := Is.elem (RdL.later lR h) j hml
      rw [mks_at _ _ _ _ _ hlt, ← HK.out] at c0 c1 c2 c3 c4 
      have hcs := cnt_succ Is.c1 hlt
      have hcb := hcl (j + 1) (by omega)
      have kk0 : 0 ≤ kk := by rw [HK.out]; omega
      have hce : ((Is.c1 l[j] : Nat) : Int) = (0 + 1 + 1 + 1 + 1 + 1 : Int) := by unfold Is.c1; omega
      have kk1 : kk + 1 + 1 + 1 + 1 + 1 ≤ 4611686018427387904 := by have := HK.out; omega
      have HEND : Hid (kk + 1 + 1 + 1 + 1 + 1 = k + cnt Is.c1 (l.take (j + 1))) := by show _ = _; have := HK.out; omega
      replace c0 : wr.cell? ⟨g, off + j * 5, none⟩ = some (.int .i64 kk) := c0
      replace c1 : wr.cell? ⟨g, off + j * 5 + 1, none⟩ = some (.int .i64 (kk + 1)) := c1
      replace c2 : wr.cell? ⟨g, off + j * 5 + 2, none⟩ = some (.int .i64 (kk + 1 + 1)) := c2
      replace c3 : wr.cell? ⟨g, off + j * 5 + 3, none⟩ = some (.int .i64 (kk + 1 + 1 + 1)) := c3
      replace c4 : wr.cell? ⟨g, off + j * 5 + 4, none⟩ = some (.int .i64 (kk + 1 + 1 + 1 + 1)) := c4
      clear h hcl HZ  hce
      go_wp2_with fail
      go_roundw
      case rel => exact ⟨j + 1, _, rfl, by go_num, by omega, lR, by have := HEND.out; show _ = _; omega⟩
      case measure => simp [intOf]; omega
    · have hlt' : decide ((j : Int) < (l.length : Int)) = false := by simp; omega
      have hjn : j = l.length := by omega
      subst hjn
      have HQ := HZ.out wr kk (by have := HK.out; rw [List.take_length] at this; exact this) lR
      clear HZ h hcl HK
      go_wp2_with fail
      go_ret
      exact HQ
theorem cnt1 {X : Type} {c1 : X → Nat} {c : Nat} (h : ∀ x, c1 x = c) : ∀ l : List X, cnt c1 l = c * l.length
  | [] => by rw [cnt]; rfl
  | x :: r => by rw [cnt, h, cnt1 h r, List.length_cons, Nat.mul_add]; omega
set_option maxHeartbeats 2000000 in
theorem heldMas_x (v : Value) (l : List Ma) (k : Int) (w : World) (h : RdL w 2 v (Ma.dats (mks Ma.mk1 Ma.c1 k l))) (h0 : 0 ≤ k) (h1 : k + cnt Ma.c1 l ≤ 4611686018427387904) :
    Calls Try.prog 64 #[v, .int .i64 k] w fun e w' => e = .returned (.int .i64 (k + cnt Ma.c1 l)) ∧ Later w w' := by
  have hcl : ∀ j, j ≤ l.length → cnt Ma.c1 (l.take j) ≤ cnt Ma.c1 l := fun j hj => by
    have := cnt_app Ma.c1 (l.take j) (l.drop j)
    rw [List.take_append_drop] at this
    omega
  have HZ : Hid (∀ w' k', k' = k + cnt Ma.c1 l → Later w w' → (Ending.returned (.int .i64 k') = .returned (.int .i64 (k + cnt Ma.c1 l)) ∧ Later w w')) := fun w' k' e q => ⟨by rw [e], q⟩
  obtain ⟨a, cap, hv, hl⟩ := Ma.slice h
  rw [mks_len] at hv hl
  subst hv
  go_enter Try.func64, Try.ntmps64
  go_wp2_with fail
  go_loopw [1, 5] (fun kv i wr => ∃ (j : Nat) (kk : Int), kv = .int .i64 kk ∧ i = .int .i64 (j : Int) ∧ j ≤ l.length ∧ Later w wr ∧ Hid (kk = k + cnt Ma.c1 (l.take j))) (fun _ i _ => l.length - (intOf i).toNat)
  case atStart => exact ⟨0, k, rfl, rfl, Nat.zero_le _, Later.refl _, by show k = k + ((0 : Nat) : Int); omega⟩
  case round =>
    obtain ⟨j, kk, rfl, rfl, hj, lR, HK⟩ := hrel
    by_cases hlt : j < l.length
    · have hi : (j : Int) < (l.length : Int) := by omega
      have hml : j < (mks Ma.mk1 Ma.c1 k l).length := by rw [mks_len]; exact hlt
      obtain ⟨g, off, v0, rfl, hg, c0, c1, r0⟩ := Ma.elem (RdL.later lR h) j hml
      rw [mks_at _ _ _ _ _ hlt, ← HK.out] at c0 r0
      have hcs := cnt_succ Ma.c1 hlt
      have hcb := hcl (j + 1) (by omega)
      have kk0 : 0 ≤ kk := by rw [HK.out]; omega
      have hce : ((Ma.c1 l[j] : Nat) : Int) = (0 + 1 + (cnt In.c1 l[j].slots : Int) : Int) := by unfold Ma.c1; rw [cnt1 (c1 := In.c1) (c := 1) (fun _ => rfl)]; omega
      have kk1 : kk + 1 + (cnt In.c1 l[j].slots : Int) ≤ 4611686018427387904 := by have := HK.out; omega
      have HEND : Hid (kk + 1 + (cnt In.c1 l[j].slots : Int) = k + cnt Ma.c1 (l.take (j + 1))) := by show _ = _; have := HK.out; omega
      replace c0 : wr.cell? ⟨g, off + j * 2, none⟩ = some (.int .i64 kk) := c0
      replace r0 : RdL wr 1 v0 (In.dats (mks In.mk1 In.c1 (kk + 1) l[j].slots)) := r0
      have hq0 := fun w' (q : Later wr w') => heldIns_x _ l[j].slots (kk + 1) w' (RdL.later q r0) (by omega) (by omega)
      obtain ⟨b0, p0, hv0, _⟩ := In.slice r0
      subst hv0
      clear h hcl HZ r0 hce
      go_wp2_with fail
      refine (hq0 _ (Later.refl _)).mono ?_
      rintro e w1 ⟨rfl, l1⟩
      have m1 := l1
      have z00 := (Below.cell m1 (p := ⟨g, off + j * 2, none⟩) hg).trans c0
      have z01 := (Below.cell m1 (p := ⟨g, off + j * 2 + 1, none⟩) hg).trans c1
      have hg0 : g < w1.heap.size := Nat.lt_of_lt_of_le hg m1.size
      go_wp2_with fail
      go_roundw
      case rel => exact ⟨j + 1, _, rfl, by go_num, by omega, lR.trans m1, by have := HEND.out; show _ = _; omega⟩
      case measure => simp [intOf]; omega
    · have hlt' : decide ((j : Int) < (l.length : Int)) = false := by simp; omega
      have hjn : j = l.length := by omega
      subst hjn
      have HQ := HZ.out wr kk (by have := HK.out; rw [List.take_length] at this; exact this) lR
      clear HZ h hcl HK
      go_wp2_with fail
      go_ret
      exact HQ
set_option maxHeartbeats 2000000 in
theorem heldBss_x (v : Value) (l : List Bs) (k : Int) (w : World) (h : RdL w 1 v (Bs.dats (mks Bs.mk1 Bs.c1 k l))) (h0 : 0 ≤ k) (h1 : k + cnt Bs.c1 l ≤ 4611686018427387904) :
    Calls Try.prog 34 #[v, .int .i64 k] w fun e w' => e = .returned (.int .i64 (k + cnt Bs.c1 l)) ∧ Later w w' := by
  have hcl : ∀ j, j ≤ l.length → cnt Bs.c1 (l.take j) ≤ cnt Bs.c1 l := fun j hj => by
    have := cnt_app Bs.c1 (l.take j) (l.drop j)
    rw [List.take_append_drop] at this
    omega
  have HZ : Hid (∀ w' k', k' = k + cnt Bs.c1 l → Later w w' → (Ending.returned (.int .i64 k') = .returned (.int .i64 (k + cnt Bs.c1 l)) ∧ Later w w')) := fun w' k' e q => ⟨by rw [e], q⟩
  obtain ⟨a, cap, hv, hl⟩ := Bs.slice h
  rw [mks_len] at hv hl
  subst hv
  go_enter Try.func34, Try.ntmps34
  go_wp2_with fail
  go_loopw [1, 5] (fun kv i wr => ∃ (j : Nat) (kk : Int), kv = .int .i64 kk ∧ i = .int .i64 (j : Int) ∧ j ≤ l.length ∧ Later w wr ∧ Hid (kk = k + cnt Bs.c1 (l.take j))) (fun _ i _ => l.length - (intOf i).toNat)
  case atStart => exact ⟨0, k, rfl, rfl, Nat.zero_le _, Later.refl _, by show k = k + ((0 : Nat) : Int); omega⟩
  case round =>
    obtain ⟨j, kk, rfl, rfl, hj, lR, HK⟩ := hrel
    by_cases hlt : j < l.length
    · have hi : (j : Int) < (l.length : Int) := by omega
      have hml : j < (mks Bs.mk1 Bs.c1 k l).length := by rw [mks_len]; exact hlt
      obtain ⟨g, off, v0, rfl, hg, c0, r0⟩ := Bs.elem (RdL.later lR h) j hml
      rw [mks_at _ _ _ _ _ hlt, ← HK.out] at r0
      have hcs := cnt_succ Bs.c1 hlt
      have hcb := hcl (j + 1) (by omega)
      have kk0 : 0 ≤ kk := by rw [HK.out]; omega
      have hce : ((Bs.c1 l[j] : Nat) : Int) = (0 + (cnt Bo.c1 l[j].l : Int) : Int) := by unfold Bs.c1; rw [cnt1 (c1 := Bo.c1) (c := 1) (fun _ => rfl)]; omega
      have kk1 : kk + (cnt Bo.c1 l[j].l : Int) ≤ 4611686018427387904 := by have := HK.out; omega
      have HEND : Hid (kk + (cnt Bo.c1 l[j].l : Int) = k + cnt Bs.c1 (l.take (j + 1))) := by show _ = _; have := HK.out; omega
      replace r0 : RdL wr 1 v0 (Bo.dats (mks Bo.mk1 Bo.c1 (kk) l[j].l)) := r0
      have hq0 := fun w' (q : Later wr w') => heldBos_x _ l[j].l (kk) w' (RdL.later q r0) (by omega) (by omega)
      obtain ⟨b0, p0, hv0, _⟩ := Bo.slice r0
      subst hv0
      rw [Nat.mul_one] at c0
      clear h hcl HZ r0 hce
      go_wp2_with fail
      refine (hq0 _ (Later.refl _)).mono ?_
      rintro e w1 ⟨rfl, l1⟩
      have m1 := l1
      have z00 := (Below.cell m1 (p := ⟨g, off + j, none⟩) hg).trans c0
      have hg0 : g < w1.heap.size := Nat.lt_of_lt_of_le hg m1.size
      go_wp2_with fail
      go_roundw
      case rel => exact ⟨j + 1, _, rfl, by go_num, by omega, lR.trans m1, by have := HEND.out; show _ = _; omega⟩
      case measure => simp [intOf]; omega
    · have hlt' : decide ((j : Int) < (l.length : Int)) = false := by simp; omega
      have hjn : j = l.length := by omega
      subst hjn
      have HQ := HZ.out wr kk (by have := HK.out; rw [List.take_length] at this; exact this) lR
      clear HZ h hcl HK
      go_wp2_with fail
      go_ret
      exact HQ
set_option maxHeartbeats 2000000 in
theorem heldCds_x (v : Value) (l : List Cd) (k : Int) (w : World) (h : RdL w 4 v (Cd.dats (mks Cd.mk1 Cd.c1 k l))) (h0 : 0 ≤ k) (h1 : k + cnt Cd.c1 l ≤ 4611686018427387904) :
    Calls Try.prog 35 #[v, .int .i64 k] w fun e w' => e = .returned (.int .i64 (k + cnt Cd.c1 l)) ∧ Later w w' := by
  have hcl : ∀ j, j ≤ l.length → cnt Cd.c1 (l.take j) ≤ cnt Cd.c1 l := fun j hj => by
    have := cnt_app Cd.c1 (l.take j) (l.drop j)
    rw [List.take_append_drop] at this
    omega
  have HZ : Hid (∀ w' k', k' = k + cnt Cd.c1 l → Later w w' → (Ending.returned (.int .i64 k') = .returned (.int .i64 (k + cnt Cd.c1 l)) ∧ Later w w')) := fun w' k' e q => ⟨by rw [e], q⟩
  obtain ⟨a, cap, hv, hl⟩ := Cd.slice h
  rw [mks_len] at hv hl
  subst hv
  go_enter Try.func35, Try.ntmps35
  go_wp2_with fail
  go_loopw [1, 5] (fun kv i wr => ∃ (j : Nat) (kk : Int), kv = .int .i64 kk ∧ i = .int .i64 (j : Int) ∧ j ≤ l.length ∧ Later w wr ∧ Hid (kk = k + cnt Cd.c1 (l.take j))) (fun _ i _ => l.length - (intOf i).toNat)
  case atStart => exact ⟨0, k, rfl, rfl, Nat.zero_le _, Later.refl _, by show k = k + ((0 : Nat) : Int); omega⟩
  case round =>
    obtain ⟨j, kk, rfl, rfl, hj, lR, HK⟩ := hrel
    by_cases hlt : j < l.length
    · have hi : (j : Int) < (l.length : Int) := by omega
      have hml : j < (mks Cd.mk1 Cd.c1 k l).length := by rw [mks_len]; exact hlt
      obtain ⟨g, off, v0, v1, rfl, hg, c0, c1, c2, c3, r0, r1⟩ := Cd.elem (RdL.later lR h) j hml
      rw [mks_at _ _ _ _ _ hlt, ← HK.out] at c0 c1 r0 r1
      have hcs := cnt_succ Cd.c1 hlt
      have hcb := hcl (j + 1) (by omega)
      have kk0 : 0 ≤ kk := by rw [HK.out]; omega
      have hce : ((Cd.c1 l[j] : Nat) : Int) = (0 + 1 + 1 + (cnt Is.c1 l[j].ins : Int) + (cnt Ma.c1 l[j].maps : Int) : Int) := by unfold Cd.c1; rw [cnt1 (c1 := Is.c1) (c := 5) (fun _ => rfl)]; omega
      have kk1 : kk + 1 + 1 + (cnt Is.c1 l[j].ins : Int) + (cnt Ma.c1 l[j].maps : Int) ≤ 4611686018427387904 := by have := HK.out; omega
      have HEND : Hid (kk + 1 + 1 + (cnt Is.c1 l[j].ins : Int) + (cnt Ma.c1 l[j].maps : Int) = k + cnt Cd.c1 (l.take (j + 1))) := by show _ = _; have := HK.out; omega
      replace c0 : wr.cell? ⟨g, off + j * 4, none⟩ = some (.int .i64 kk) := c0
      replace c1 : wr.cell? ⟨g, off + j * 4 + 1, none⟩ = some (.int .i64 (kk + 1)) := c1
      replace r0 : RdL wr 5 v0 (Is.dats (mks Is.mk1 Is.c1 (kk + 1 + 1) l[j].ins)) := r0
      have hq0 := fun w' (q : Later wr w') => heldIss_x _ l[j].ins (kk + 1 + 1) w' (RdL.later q r0) (by omega) (by omega)
      obtain ⟨b0, p0, hv0, _⟩ := Is.slice r0
      subst hv0
      replace r1 : RdL wr 2 v1 (Ma.dats (mks Ma.mk1 Ma.c1 (kk + 1 + 1 + (cnt Is.c1 l[j].ins : Int)) l[j].maps)) := by rw [cnt1 (c1 := Is.c1) (c := 5) (fun _ => rfl)]; exact r1
      have hq1 := fun w' (q : Later wr w') => heldMas_x _ l[j].maps (kk + 1 + 1 + (cnt Is.c1 l[j].ins : Int)) w' (RdL.later q r1) (by omega) (by omega)
      obtain ⟨b1, p1, hv1, _⟩ := Ma.slice r1
      subst hv1
      clear h hcl HZ r0 r1 hce
      go_wp2_with fail
      refine (hq0 _ (Later.refl _)).mono ?_
      rintro e w1 ⟨rfl, l1⟩
      have m1 := l1
      have z00 := (Below.cell m1 (p := ⟨g, off + j * 4, none⟩) hg).trans c0
      have z01 := (Below.cell m1 (p := ⟨g, off + j * 4 + 1, none⟩) hg).trans c1
      have z02 := (Below.cell m1 (p := ⟨g, off + j * 4 + 2, none⟩) hg).trans c2
      have z03 := (Below.cell m1 (p := ⟨g, off + j * 4 + 3, none⟩) hg).trans c3
      have hg0 : g < w1.heap.size := Nat.lt_of_lt_of_le hg m1.size
      go_wp2_with fail
      refine (hq1 _ (m1)).mono ?_
      rintro e w2 ⟨rfl, l2⟩
      have m2 := m1.trans l2
      have z10 := (Below.cell m2 (p := ⟨g, off + j * 4, none⟩) hg).trans c0
      have z11 := (Below.cell m2 (p := ⟨g, off + j * 4 + 1, none⟩) hg).trans c1
      have z12 := (Below.cell m2 (p := ⟨g, off + j * 4 + 2, none⟩) hg).trans c2
      have z13 := (Below.cell m2 (p := ⟨g, off + j * 4 + 3, none⟩) hg).trans c3
      have hg1 : g < w2.heap.size := Nat.lt_of_lt_of_le hg m2.size
      go_wp2_with fail
      go_roundw
      case rel => exact ⟨j + 1, _, rfl, by go_num, by omega, lR.trans m2, by have := HEND.out; show _ = _; omega⟩
      case measure => simp [intOf]; omega
    · have hlt' : decide ((j : Int) < (l.length : Int)) = false := by simp; omega
      have hjn : j = l.length := by omega
      subst hjn
      have HQ := HZ.out wr kk (by have := HK.out; rw [List.take_length] at this; exact this) lR
      clear HZ h hcl HK
      go_wp2_with fail
      go_ret
      exact HQ
set_option maxHeartbeats 2000000 in
theorem heldIm_x (x : Im) (v0 v1 : Value) (k : Int) (w : World) (h0 : RdL w 1 v0 (Bs.dats (Im.mk1 k x).structs)) (h1 : RdL w 4 v1 (Cd.dats (Im.mk1 k x).codes)) (hk : 0 ≤ k) (hk1 : k + x.cn ≤ 4611686018427387904) :
    Calls Try.prog 15 #[.agg #[v0, v1, .int .i64 x.main], .int .i64 k] w fun e w' => e = .returned (.int .i64 (k + x.cn)) ∧ Later w w' := by
  have hcn : x.cn = cnt Bs.c1 x.structs + cnt Cd.c1 x.codes := rfl
  have q0 := fun w' (l : Later w w') => heldBss_x v0 x.structs k w' (RdL.later l h0) hk (by omega)
  have q1 := fun w' (l : Later w w') => heldCds_x v1 x.codes (k + cnt Bs.c1 x.structs) w' (RdL.later l h1) (by omega) (by omega)
  obtain ⟨a, c, rfl, _⟩ := Bs.slice h0
  obtain ⟨a', c', rfl, _⟩ := Cd.slice h1
  generalize (Im.mk1 k x).structs.length = n0 at *
  generalize (Im.mk1 k x).codes.length = n1 at *
  have HZ : Hid (∀ w' k', k' = k + x.cn → Later w w' → (Ending.returned (.int .i64 k') = .returned (.int .i64 (k + x.cn)) ∧ Later w w')) := fun w' k' e q => ⟨by rw [e], q⟩
  generalize x.main = zm at *
  clear h0 h1
  go_enter Try.func15, Try.ntmps15
  go_wp2_with fail
  refine (q0 _ (later1 _ _)).mono ?_
  rintro e w1 ⟨rfl, l1⟩
  have y1 : w1.cell? ⟨w.heap.size, 1, none⟩ = some (.slice a' n1 c') := by rw [Below.cell l1 (p := ⟨w.heap.size, 1, none⟩) (by simp)]; simp
  have yl : w.heap.size < w1.heap.size := by have := l1.size; simp at this; omega
  have L1 := (later1 w _).trans l1
  have i1 : ¬ k + (cnt Bs.c1 x.structs : Int) < 0 := by omega
  go_wp2_with fail
  refine (q1 _ L1).mono ?_
  rintro e w2 ⟨rfl, l2⟩
  have i2 : ¬ k + (cnt Bs.c1 x.structs : Int) + (cnt Cd.c1 x.codes : Int) < 0 := by omega
  have HQ := HZ.out w2 (k + cnt Bs.c1 x.structs + cnt Cd.c1 x.codes) (by omega) (L1.trans l2)
  clear HZ
  go_wp2_with fail
  go_ret
  exact HQ
end Go.Proofs.Ytlfkjjnhlkaipaa
