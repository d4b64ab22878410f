/- Numbers as bytes by the program: bytesOf, appendLow. -/
import Derived.Test.YtlfkjjnhlkaipaaB2
import Derived.Test.YtlfkjjnhlkaipaaG1
namespace Go.Proofs.Ytlfkjjnhlkaipaa
open Go.RowKit Go.Lib

set_option maxRecDepth 100000 in
theorem by8_any (w : World) : Calls Try.prog 82 #[] w fun e w' => e = .returned (.int .i64 1) ∧ w' = w := by
  have hL : ∀ w', Calls Try.prog 94 #[.int .u64 255] w' fun e w2 => e = .returned (.int .i64 8) ∧ w2 = w' := fun w' => by
    go_enter Try.func94, Try.ntmps94
    go_wp2
    go_ret
    exact ⟨by kernel_rfl, rfl⟩
  go_enter Try.func82, Try.ntmps82
  go_wp2_with fail
  refine (hL _).mono ?_
  rintro e w1 ⟨rfl, hww⟩
  obtain rfl := hww.symm
  go_wp2_with fail
  go_ret
  exact ⟨rfl, rfl⟩
set_option maxRecDepth 100000 in
theorem by16_any (w : World) : Calls Try.prog 81 #[] w fun e w' => e = .returned (.int .i64 2) ∧ w' = w := by
  have hL : ∀ w', Calls Try.prog 94 #[.int .u64 65535] w' fun e w2 => e = .returned (.int .i64 16) ∧ w2 = w' := fun w' => by
    go_enter Try.func94, Try.ntmps94
    go_wp2
    go_ret
    exact ⟨by kernel_rfl, rfl⟩
  go_enter Try.func81, Try.ntmps81
  go_wp2_with fail
  refine (hL _).mono ?_
  rintro e w1 ⟨rfl, hww⟩
  obtain rfl := hww.symm
  go_wp2_with fail
  go_ret
  exact ⟨rfl, rfl⟩
set_option maxRecDepth 100000 in
theorem by64_any (w : World) : Calls Try.prog 95 #[] w fun e w' => e = .returned (.int .i64 8) ∧ w' = w := by
  have hL : ∀ w', Calls Try.prog 94 #[.int .u64 18446744073709551615] w' fun e w2 => e = .returned (.int .i64 64) ∧ w2 = w' := fun w' => by
    go_enter Try.func94, Try.ntmps94
    go_wp2
    go_ret
    exact ⟨by kernel_rfl, rfl⟩
  go_enter Try.func95, Try.ntmps95
  go_wp2_with fail
  refine (hL _).mono ?_
  rintro e w1 ⟨rfl, hww⟩
  obtain rfl := hww.symm
  go_wp2_with fail
  go_ret
  exact ⟨rfl, rfl⟩
theorem hidq8 {α : Type} (x : α) : ∃ T, Hid (T = x) := ⟨x, rfl⟩
/-- Numbers, each by its first k bytes. -/
def lowL (k : Nat) : List Int → List Int
  | [] => []
  | n :: r => eightL n k ++ lowL k r
theorem lowL_snoc (k : Nat) (l : List Int) (n : Int) : lowL k (l ++ [n]) = lowL k l ++ eightL n k := by
  induction l with
  | nil => simp [lowL]
  | cons x r ih => rw [List.cons_append, lowL, lowL, ih, List.append_assoc]
theorem lowL_len (k : Nat) (l : List Int) : (lowL k l).length = k * l.length := by
  induction l with
  | nil => rfl
  | cons x r ih => rw [lowL, List.length_append, ih, eightL_len, List.length_cons, Nat.mul_succ]; omega
theorem two_eight {n : Int} (h : W2 n) : eightL n 2 = twoL n := by
  unfold W2 at h
  have e : n % 18446744073709551616 = n := by omega
  show [n % 18446744073709551616 / 2 ^ (8 * 0) % 256] ++ [n % 18446744073709551616 / 2 ^ (8 * 1) % 256] = [n % 256, n / 256]
  rw [e]
  simp
  omega
theorem lowL_two (l : List Int) (h : ∀ n ∈ l, W2 n) : lowL 2 l = slotsL l := by
  induction l with
  | nil => rfl
  | cons x r ih => rw [lowL, slotsL, two_eight (h x (List.mem_cons_self ..)), ih (fun n hn => h n (List.mem_cons_of_mem _ hn))]
theorem lowL_one (l : List Int) (h : ∀ n ∈ l, W1 n) : lowL 1 l = l := by
  induction l with
  | nil => rfl
  | cons x r ih =>
    have hx := h x (List.mem_cons_self ..)
    unfold W1 at hx
    rw [lowL, ih (fun n hn => h n (List.mem_cons_of_mem _ hn))]
    have e : x % 18446744073709551616 = x := by omega
    show [x % 18446744073709551616 / 2 ^ (8 * 0) % 256] ++ r = x :: r
    rw [e]
    simp
    omega
set_option maxRecDepth 20000 in
set_option maxHeartbeats 2000000 in
theorem low8_any (A W w : World) (v nv : Value) (zs ns : List Int) (h : Bf A W w v zs) (hr : ∀ w', Later W w' → K8 A w' → RdL w' 1 nv (In.dats ns)) (hn : ∀ n ∈ ns, W1 n) (hb : zs.length + 1 * ns.length ≤ 1000000000) :
    Calls Try.prog 54 #[v, nv] w (SayP A W (zs ++ lowL 1 ns)) := by
  obtain ⟨i0, hi, hz0, hz1, hz2⟩ := info_parts Try.info5
  have HF : Hid (∀ v' w', Bf A W w' v' (zs ++ lowL 1 ns) → SayP A W (zs ++ lowL 1 ns) (.returned v') w') := fun v' w' h => ⟨v', rfl, h⟩
  generalize hQ : SayP A W (zs ++ lowL 1 ns) = Q
  rw [hQ] at HF
  clear hQ
  obtain ⟨na, nc, rfl, hnl⟩ := In.slice (hr w h.lat h.k8)
  have HR : Hid (∀ w', Later W w' → K8 A w' → RdL w' 1 (.slice na ns.length nc) (In.dats ns)) := hr
  obtain ⟨a, cap, h6⟩ := h.shape
  subst h6
  clear hr
  go_enter Try.func54, Try.ntmps54
  go_wp2_with fail
  go_loopw [0, 10] (fun b i wr => ∃ (k : Nat), i = .int .i64 (k : Int) ∧ k ≤ ns.length ∧ Bf A W wr b (zs ++ lowL 1 (ns.take k))) (fun _ i _ => ns.length - (intOf i).toNat)
  case atStart => exact ⟨0, rfl, Nat.zero_le _, by simpa [lowL] using h⟩
  case round =>
    clear h
    obtain ⟨k, rfl, hk, hB⟩ := hrel
    by_cases hlt : k < ns.length
    · obtain ⟨g, off, rfl, hg, c0⟩ := In.elem (HR.out wr hB.lat hB.k8) k hlt
      have i1 : (k : Int) < (ns.length : Int) := by omega
      obtain ⟨u, hu⟩ : ∃ u : Nat, (ns[k] % 18446744073709551616).toNat = u := ⟨_, rfl⟩
      have hw0 := hn _ (List.getElem_mem hlt)
      unfold W1 at hw0
      have e1 : IntKind.u8.wrap ns[k] = (u : Int) := by rw [IntKind.wrap_u8]; omega
      have hu8 : (u : Int) < 256 := by omega
      have hu64 : u < 18446744073709551616 := by omega
      have HU : Hid (ns[k] % 18446744073709551616 = (u : Int)) := by unfold Hid; omega
      have zl : (zs ++ lowL 1 (ns.take k)).length ≤ 1000000000 - 1 := by rw [List.length_append, lowL_len, List.length_take, Nat.min_eq_left hk]; omega
      have HN : Hid (zs ++ lowL 1 (ns.take (k + 1)) = (zs ++ lowL 1 (ns.take k)) ++ eightL ns[k] 1) := by unfold Hid; rw [List.take_succ_eq_append_getElem hlt, lowL_snoc, List.append_assoc]
      obtain ⟨Y, hY⟩ := hidq8 (zs ++ lowL 1 (ns.take k))
      rw [← hY.out] at hB zl HN
      generalize (ns[k] : Int) = n at *
      obtain ⟨a1, c1, h6⟩ := hB.shape
      subst h6
      have hby := by8_any wr
      clear hY hu hw0
      go_wp2_with fail
      refine hby.mono ?_
      rintro e w1 ⟨rfl, hww⟩
      obtain rfl := hww.symm
      clear hby
      go_wp2_with fail
      obtain ⟨wo, hwo⟩ := hidq8 wr
      rw [← hwo.out] at hB ⊢
      clear hwo c0
      go_loopw [0, 15] (fun b i wr => ∃ (j : Nat), i = .int .i64 (j : Int) ∧ j ≤ 1 ∧ Bf A W wr b (Y ++ eightL n j)) (fun _ i _ => 1 - (intOf i).toNat)
      case atStart => exact ⟨0, rfl, Nat.zero_le _, by simpa [eightL] using hB⟩
      case round =>
        clear hB
        obtain ⟨j, rfl, hj, hB⟩ := hrel
        by_cases hjt : j < 1
        · obtain rfl : j = 0 := by omega
          have j1 : ((0 : Nat) : Int) < 1 := by omega
          have zl2 : (Y ++ eightL n 0).length ≤ 1000000000 := by rw [List.length_append, eightL_len]; omega
          obtain ⟨V, hV⟩ : ∃ V : Int, Hid ((u : Int) = V) := ⟨_, show _ = _ from rfl⟩
          have HN5 : Hid (Y ++ eightL n (0 + 1) = (Y ++ eightL n 0) ++ [V]) := by
            unfold Hid
            show Y ++ (eightL n 0 ++ [n % 18446744073709551616 / 2 ^ (8 * 0) % 256]) = _
            rw [HU.out, ← hV.out, List.append_assoc]
            congr 3
            simp
            omega
          obtain ⟨Y7, hY7⟩ := hidq8 (Y ++ eightL n 0)
          rw [← hY7.out] at hB zl2 HN5
          clear hY7
          rw [hV.out] at e1
          have hB1 := hB.alloc (.cells #[.int .u8 V] 5)
          have o1 := hB1.1
          have hs1 := hB1.2.size
          obtain ⟨a9, c9, rfl⟩ := hB.shape
          clear hV
          go_wp2_with (at_builtin; refine wpList_append_own_at _ rfl _ _ 22 rfl W.heap.size 5 i0 (.int .u8 0) 1 1 Try.underlying22 hi hz0 hz1 hz2 rfl (by decide) _ _ _ rfl o1 _ 1 1 [.int .u8 V] rfl rfl (new_row _ _ _ (by simp)) (by simp [Value.oneCell']) (by unfold maxLen; omega) (by omega) hs1 ?_; intro v9 w9 o9 g9 _ _)
          have b9 := hB1.put (ts := [V]) o9 rfl rfl g9
          go_roundw
          case rel => exact ⟨0 + 1, by go_num, by omega, by rw [HN5.out]; exact b9⟩
          case measure => simp [intOf] <;> omega
        · have j1 : ¬ (j : Int) < 1 := by omega
          have j2 : decide ((j : Int) < 1) = false := decide_eq_false j1
          have j8 : j = 1 := by omega
          subst j8
          have hB' : Bf A W wr u0 (zs ++ lowL 1 (ns.take (k + 1))) := by rw [HN.out]; exact hB
          clear hB
          go_wp2_with fail
          go_roundw
          case rel => exact ⟨k + 1, by go_num, by omega, hB'⟩
          case measure => simp [intOf]; omega
    · have i1 : ¬ (k : Int) < (ns.length : Int) := by omega
      have i2 : decide ((k : Int) < (ns.length : Int)) = false := decide_eq_false i1
      rw [List.take_of_length_le (by omega)] at hB
      have HZ := HF.out _ _ hB
      clear hB
      go_wp2_with fail
      exact HZ
set_option maxRecDepth 20000 in
set_option maxHeartbeats 2000000 in
theorem low16_any (A W w : World) (v nv : Value) (zs ns : List Int) (h : Bf A W w v zs) (hr : ∀ w', Later W w' → K8 A w' → RdL w' 1 nv (In.dats ns)) (hn : ∀ n ∈ ns, W2 n) (hb : zs.length + 2 * ns.length ≤ 1000000000) :
    Calls Try.prog 53 #[v, nv] w (SayP A W (zs ++ lowL 2 ns)) := by
  obtain ⟨i0, hi, hz0, hz1, hz2⟩ := info_parts Try.info5
  have HF : Hid (∀ v' w', Bf A W w' v' (zs ++ lowL 2 ns) → SayP A W (zs ++ lowL 2 ns) (.returned v') w') := fun v' w' h => ⟨v', rfl, h⟩
  generalize hQ : SayP A W (zs ++ lowL 2 ns) = Q
  rw [hQ] at HF
  clear hQ
  obtain ⟨na, nc, rfl, hnl⟩ := In.slice (hr w h.lat h.k8)
  have HR : Hid (∀ w', Later W w' → K8 A w' → RdL w' 1 (.slice na ns.length nc) (In.dats ns)) := hr
  obtain ⟨a, cap, h6⟩ := h.shape
  subst h6
  clear hr
  go_enter Try.func53, Try.ntmps53
  go_wp2_with fail
  go_loopw [0, 10] (fun b i wr => ∃ (k : Nat), i = .int .i64 (k : Int) ∧ k ≤ ns.length ∧ Bf A W wr b (zs ++ lowL 2 (ns.take k))) (fun _ i _ => ns.length - (intOf i).toNat)
  case atStart => exact ⟨0, rfl, Nat.zero_le _, by simpa [lowL] using h⟩
  case round =>
    clear h
    obtain ⟨k, rfl, hk, hB⟩ := hrel
    by_cases hlt : k < ns.length
    · obtain ⟨g, off, rfl, hg, c0⟩ := In.elem (HR.out wr hB.lat hB.k8) k hlt
      have i1 : (k : Int) < (ns.length : Int) := by omega
      obtain ⟨u, hu⟩ : ∃ u : Nat, (ns[k] % 18446744073709551616).toNat = u := ⟨_, rfl⟩
      have hw0 := hn _ (List.getElem_mem hlt)
      unfold W2 at hw0
      have e1 : IntKind.u16.wrap ns[k] = (u : Int) := by rw [IntKind.wrap_u16]; omega
      have hu64 : u < 18446744073709551616 := by omega
      have HU : Hid (ns[k] % 18446744073709551616 = (u : Int)) := by unfold Hid; omega
      have zl : (zs ++ lowL 2 (ns.take k)).length ≤ 1000000000 - 2 := by rw [List.length_append, lowL_len, List.length_take, Nat.min_eq_left hk]; omega
      have HN : Hid (zs ++ lowL 2 (ns.take (k + 1)) = (zs ++ lowL 2 (ns.take k)) ++ eightL ns[k] 2) := by unfold Hid; rw [List.take_succ_eq_append_getElem hlt, lowL_snoc, List.append_assoc]
      obtain ⟨Y, hY⟩ := hidq8 (zs ++ lowL 2 (ns.take k))
      rw [← hY.out] at hB zl HN
      generalize (ns[k] : Int) = n at *
      obtain ⟨a1, c1, h6⟩ := hB.shape
      subst h6
      have hby := by16_any wr
      clear hY hu hw0
      go_wp2_with fail
      refine hby.mono ?_
      rintro e w1 ⟨rfl, hww⟩
      obtain rfl := hww.symm
      clear hby
      go_wp2_with fail
      obtain ⟨wo, hwo⟩ := hidq8 wr
      rw [← hwo.out] at hB ⊢
      clear hwo c0
      go_loopw [0, 15] (fun b i wr => ∃ (j : Nat), i = .int .i64 (j : Int) ∧ j ≤ 2 ∧ Bf A W wr b (Y ++ eightL n j)) (fun _ i _ => 2 - (intOf i).toNat)
      case atStart => exact ⟨0, rfl, Nat.zero_le _, by simpa [eightL] using hB⟩
      case round =>
        clear hB
        obtain ⟨j, rfl, hj, hB⟩ := hrel
        by_cases hjt : j < 2
        · have j1 : (j : Int) < 2 := by omega
          have zl2 : (Y ++ eightL n j).length ≤ 1000000000 := by rw [List.length_append, eightL_len]; omega
          have HN5 : Hid (Y ++ eightL n (j + 1) = (Y ++ eightL n j) ++ [(u : Int) / 2 ^ (j * 8) % 256]) := by unfold Hid; rw [eightL, ← List.append_assoc, HU.out, Nat.mul_comm 8 j]
          obtain ⟨Y7, hY7⟩ := hidq8 (Y ++ eightL n j)
          rw [← hY7.out] at hB zl2 HN5
          clear hY7
          obtain ⟨V, hV⟩ : ∃ V : Int, Hid ((u : Int) / 2 ^ (j * 8) % 256 = V) := ⟨_, show _ = _ from rfl⟩
          rw [hV.out] at HN5
          have hB1 := hB.alloc (.cells #[.int .u8 V] 5)
          have o1 := hB1.1
          have hs1 := hB1.2.size
          have hw8 : IntKind.u8.wrap ((u : Int) / 2 ^ (j * 8)) = V := by rw [← hV.out]; exact IntKind.wrap_u8 _
          have b1 : -9223372036854775808 ≤ (j : Int) * 8 := by omega
          have b2 : (j : Int) * 8 ≤ 9223372036854775807 := by omega
          have b3 : (0 : Int) ≤ (j : Int) * 8 := by omega
          have b4 : ((j : Int) * 8).toNat = j * 8 := by omega
          obtain ⟨a9, c9, rfl⟩ := hB.shape
          clear hV
          go_wp2_with (at_builtin; refine wpList_append_own_at _ rfl _ _ 22 rfl W.heap.size 5 i0 (.int .u8 0) 1 1 Try.underlying22 hi hz0 hz1 hz2 rfl (by decide) _ _ _ rfl o1 _ 1 1 [.int .u8 V] rfl rfl (new_row _ _ _ (by simp)) (by simp [Value.oneCell']) (by unfold maxLen; omega) (by omega) hs1 ?_; intro v9 w9 o9 g9 _ _)
          have b9 := hB1.put (ts := [V]) o9 rfl rfl g9
          go_roundw
          case rel => exact ⟨j + 1, by go_num, by omega, by rw [HN5.out]; exact b9⟩
          case measure => simp [intOf] <;> omega
        · have j1 : ¬ (j : Int) < 2 := by omega
          have j2 : decide ((j : Int) < 2) = false := decide_eq_false j1
          have j8 : j = 2 := by omega
          subst j8
          have hB' : Bf A W wr u0 (zs ++ lowL 2 (ns.take (k + 1))) := by rw [HN.out]; exact hB
          clear hB
          go_wp2_with fail
          go_roundw
          case rel => exact ⟨k + 1, by go_num, by omega, hB'⟩
          case measure => simp [intOf]; omega
    · have i1 : ¬ (k : Int) < (ns.length : Int) := by omega
      have i2 : decide ((k : Int) < (ns.length : Int)) = false := decide_eq_false i1
      rw [List.take_of_length_le (by omega)] at hB
      have HZ := HF.out _ _ hB
      clear hB
      go_wp2_with fail
      exact HZ
set_option maxRecDepth 20000 in
set_option maxHeartbeats 2000000 in
theorem low64_any (A W w : World) (v nv : Value) (zs ns : List Int) (h : Bf A W w v zs) (hr : ∀ w', Later W w' → K8 A w' → RdL w' 1 nv (In.dats ns)) (hb : zs.length + 8 * ns.length ≤ 1000000000) :
    Calls Try.prog 83 #[v, nv] w (SayP A W (zs ++ lowL 8 ns)) := by
  obtain ⟨i0, hi, hz0, hz1, hz2⟩ := info_parts Try.info5
  have HF : Hid (∀ v' w', Bf A W w' v' (zs ++ lowL 8 ns) → SayP A W (zs ++ lowL 8 ns) (.returned v') w') := fun v' w' h => ⟨v', rfl, h⟩
  generalize hQ : SayP A W (zs ++ lowL 8 ns) = Q
  rw [hQ] at HF
  clear hQ
  obtain ⟨na, nc, rfl, hnl⟩ := In.slice (hr w h.lat h.k8)
  have HR : Hid (∀ w', Later W w' → K8 A w' → RdL w' 1 (.slice na ns.length nc) (In.dats ns)) := hr
  obtain ⟨a, cap, h6⟩ := h.shape
  subst h6
  clear hr
  go_enter Try.func83, Try.ntmps83
  go_wp2_with fail
  go_loopw [0, 10] (fun b i wr => ∃ (k : Nat), i = .int .i64 (k : Int) ∧ k ≤ ns.length ∧ Bf A W wr b (zs ++ lowL 8 (ns.take k))) (fun _ i _ => ns.length - (intOf i).toNat)
  case atStart => exact ⟨0, rfl, Nat.zero_le _, by simpa [lowL] using h⟩
  case round =>
    clear h
    obtain ⟨k, rfl, hk, hB⟩ := hrel
    by_cases hlt : k < ns.length
    · obtain ⟨g, off, rfl, hg, c0⟩ := In.elem (HR.out wr hB.lat hB.k8) k hlt
      have i1 : (k : Int) < (ns.length : Int) := by omega
      obtain ⟨u, hu⟩ : ∃ u : Nat, (ns[k] % 18446744073709551616).toNat = u := ⟨_, rfl⟩
      have e1 : IntKind.u64.wrap ns[k] = (u : Int) := by rw [IntKind.wrap_u64]; omega
      have hu64 : u < 18446744073709551616 := by omega
      have HU : Hid (ns[k] % 18446744073709551616 = (u : Int)) := by unfold Hid; omega
      have zl : (zs ++ lowL 8 (ns.take k)).length ≤ 1000000000 - 8 := by rw [List.length_append, lowL_len, List.length_take, Nat.min_eq_left hk]; omega
      have HN : Hid (zs ++ lowL 8 (ns.take (k + 1)) = (zs ++ lowL 8 (ns.take k)) ++ eightL ns[k] 8) := by unfold Hid; rw [List.take_succ_eq_append_getElem hlt, lowL_snoc, List.append_assoc]
      obtain ⟨Y, hY⟩ := hidq8 (zs ++ lowL 8 (ns.take k))
      rw [← hY.out] at hB zl HN
      generalize (ns[k] : Int) = n at *
      obtain ⟨a1, c1, h6⟩ := hB.shape
      subst h6
      have hby := by64_any wr
      clear hY hu 
      go_wp2_with fail
      refine hby.mono ?_
      rintro e w1 ⟨rfl, hww⟩
      obtain rfl := hww.symm
      clear hby
      go_wp2_with fail
      obtain ⟨wo, hwo⟩ := hidq8 wr
      rw [← hwo.out] at hB ⊢
      clear hwo c0
      go_loopw [0, 15] (fun b i wr => ∃ (j : Nat), i = .int .i64 (j : Int) ∧ j ≤ 8 ∧ Bf A W wr b (Y ++ eightL n j)) (fun _ i _ => 8 - (intOf i).toNat)
      case atStart => exact ⟨0, rfl, Nat.zero_le _, by simpa [eightL] using hB⟩
      case round =>
        clear hB
        obtain ⟨j, rfl, hj, hB⟩ := hrel
        by_cases hjt : j < 8
        · have j1 : (j : Int) < 8 := by omega
          have zl2 : (Y ++ eightL n j).length ≤ 1000000000 := by rw [List.length_append, eightL_len]; omega
          have HN5 : Hid (Y ++ eightL n (j + 1) = (Y ++ eightL n j) ++ [(u : Int) / 2 ^ (j * 8) % 256]) := by unfold Hid; rw [eightL, ← List.append_assoc, HU.out, Nat.mul_comm 8 j]
          obtain ⟨Y7, hY7⟩ := hidq8 (Y ++ eightL n j)
          rw [← hY7.out] at hB zl2 HN5
          clear hY7
          obtain ⟨V, hV⟩ : ∃ V : Int, Hid ((u : Int) / 2 ^ (j * 8) % 256 = V) := ⟨_, show _ = _ from rfl⟩
          rw [hV.out] at HN5
          have hB1 := hB.alloc (.cells #[.int .u8 V] 5)
          have o1 := hB1.1
          have hs1 := hB1.2.size
          have hw8 : IntKind.u8.wrap ((u : Int) / 2 ^ (j * 8)) = V := by rw [← hV.out]; exact IntKind.wrap_u8 _
          have b1 : -9223372036854775808 ≤ (j : Int) * 8 := by omega
          have b2 : (j : Int) * 8 ≤ 9223372036854775807 := by omega
          have b3 : (0 : Int) ≤ (j : Int) * 8 := by omega
          have b4 : ((j : Int) * 8).toNat = j * 8 := by omega
          obtain ⟨a9, c9, rfl⟩ := hB.shape
          clear hV
          go_wp2_with (at_builtin; refine wpList_append_own_at _ rfl _ _ 22 rfl W.heap.size 5 i0 (.int .u8 0) 1 1 Try.underlying22 hi hz0 hz1 hz2 rfl (by decide) _ _ _ rfl o1 _ 1 1 [.int .u8 V] rfl rfl (new_row _ _ _ (by simp)) (by simp [Value.oneCell']) (by unfold maxLen; omega) (by omega) hs1 ?_; intro v9 w9 o9 g9 _ _)
          have b9 := hB1.put (ts := [V]) o9 rfl rfl g9
          go_roundw
          case rel => exact ⟨j + 1, by go_num, by omega, by rw [HN5.out]; exact b9⟩
          case measure => simp [intOf] <;> omega
        · have j1 : ¬ (j : Int) < 8 := by omega
          have j2 : decide ((j : Int) < 8) = false := decide_eq_false j1
          have j8 : j = 8 := by omega
          subst j8
          have hB' : Bf A W wr u0 (zs ++ lowL 8 (ns.take (k + 1))) := by rw [HN.out]; exact hB
          clear hB
          go_wp2_with fail
          go_roundw
          case rel => exact ⟨k + 1, by go_num, by omega, hB'⟩
          case measure => simp [intOf]; omega
    · have i1 : ¬ (k : Int) < (ns.length : Int) := by omega
      have i2 : decide ((k : Int) < (ns.length : Int)) = false := decide_eq_false i1
      rw [List.take_of_length_le (by omega)] at hB
      have HZ := HF.out _ _ hB
      clear hB
      go_wp2_with fail
      exact HZ
end Go.Proofs.Ytlfkjjnhlkaipaa
