/- The digits of a float's bits, by the model. -/
import Derived.Test.YtbigjeejmacjcaaGreatDoorT33
import Derived.Lib.SlBytesConst
import Derived.ArgAppend
import Derived.Laws.Bits64b
namespace Go.Proofs.YtbigjeejmacjcaaGreatDoor
open Go.RowKit Go.Lib
theorem hexF_step (k u j : Nat) : hexF (k + 1) (u / 16 ^ j) = hexF k (u / 16 ^ (j + 1)) ++ [hexD (u / 16 ^ j % 16)] := by
  rw [hexF, Nat.div_div_eq_div_mul, ← Nat.pow_succ]
theorem hexF_len (k u : Nat) : (hexF k u).length = k := by
  induction k generalizing u with
  | zero => rfl
  | succ k ih => rw [hexF, List.length_append, ih]; rfl
theorem hexL_len (n : Int) : (hexL n).length = 18 := by unfold hexL; rw [List.length_append, hexF_len]; rfl
theorem and15 (u k : Nat) (hu : u < 18446744073709551616) : bits .and .u64 ((u : Int) / 2 ^ (4 * k)) 15 = ((u / 16 ^ k % 16 : Nat) : Int) := by
  have e : ((u : Int) / 2 ^ (4 * k)) = ((u / 16 ^ k : Nat) : Int) := by rw [Int.natCast_ediv, Int.natCast_pow]; rw [Int.pow_mul]; rfl
  have h : u / 16 ^ k < 18446744073709551616 := Nat.lt_of_le_of_lt (Nat.div_le_self _ _) hu
  rw [e]
  have h2 := bits_and_u64_nat (u / 16 ^ k) 15 h (by decide)
  rw [show ((15 : Nat) : Int) = 15 from rfl] at h2
  rw [h2, show (15 : Nat) = 2 ^ 4 - 1 from rfl, Nat.and_two_pow_sub_one_eq_mod]
theorem hex_lit : ∀ (D : Nat) (h : D < 16), ((((⟨#[48, 49, 50, 51, 52, 53, 54, 55, 56, 57, 97, 98, 99, 100, 101, 102]⟩ : ByteArray)[D]'h).toNat : Nat) : Int) = hexD D := by
  intro D h
  obtain rfl | rfl | rfl | rfl | rfl | rfl | rfl | rfl | rfl | rfl | rfl | rfl | rfl | rfl | rfl | rfl : D = 0 ∨ D = 1 ∨ D = 2 ∨ D = 3 ∨ D = 4 ∨ D = 5 ∨ D = 6 ∨ D = 7 ∨ D = 8 ∨ D = 9 ∨ D = 10 ∨ D = 11 ∨ D = 12 ∨ D = 13 ∨ D = 14 ∨ D = 15 := by omega
  all_goals rfl
theorem two_cells {wr : World} {g : Nat} (hc0 : wr.cell? ⟨g, 0, none⟩ = some (.int .u8 48)) (hc1 : wr.cell? ⟨g, 1, none⟩ = some (.int .u8 102)) (o : Obj) : ∀ b, some (⟨g, 0, none⟩ : Addr) = some b → ∀ j u, [Value.int .u8 48, Value.int .u8 102][j]? = some u → (wr.alloc o).cell? (b.add j) = some u := by
  intro b hb j u hj
  cases hb
  match j with
  | 0 =>
    have e : Value.int .u8 48 = u := by simpa using hj
    rw [Addr.add_lit, ← e]
    exact cell?_alloc_marked o hc0
  | 1 =>
    have e : Value.int .u8 102 = u := by simpa using hj
    rw [Addr.add_lit, ← e]
    exact cell?_alloc_marked o hc1
  | j + 2 => simp at hj
theorem cell_new (w : World) (C : Array Value) (e : TypeId) (f : Nat × Nat) (j : Nat) (v : Value) (h : C[j]? = some v) : (w.alloc (.cells C e f)).cell? ⟨w.heap.size, j, none⟩ = some v := by
  have : (w.alloc (.cells C e f)).heap[w.heap.size]? = some (.cells C e f) := by
    show (w.heap.push _)[w.heap.size]? = _
    simp
  unfold World.cell?
  show (match (w.alloc (.cells C e f)).heap[w.heap.size]? with | some (.cells c _ _) => c[j]? | _ => none) = some v
  rw [this]
  exact h
/-- The row under way: of the call's own, or the two signs that it begins with. -/
def HxR (W w : World) (v : Value) (zs : List Int) : Prop := Bf W W w v zs ∨ (zs = [48, 102] ∧ Later W w ∧ v = .slice (some ⟨W.heap.size, 0, none⟩) 2 2 ∧ w.cell? ⟨W.heap.size, 0, none⟩ = some (.int .u8 48) ∧ w.cell? ⟨W.heap.size, 1, none⟩ = some (.int .u8 102))
set_option maxRecDepth 20000 in
set_option maxHeartbeats 1000000 in
theorem hex_any (n : Int) (w : World) : Calls Tryz.prog 75 #[.int .i64 n] w (SayP w w (hexL n)) := by
  obtain ⟨i0, hi, hz0, hz1, hz2⟩ := info_parts Tryz.info5
  have kc := fun (w : World) (C : Array Value) (n c : Nat) => Lib.run_convert_bytes_const (P := Tryz.prog) w 27 5 C n c Tryz.underlying27 Tryz.underlying5
  have HF : Hid (∀ v' w', Bf w w w' v' (hexL n) → SayP w w (hexL n) (.returned v') w') := fun v' w' h => ⟨v', rfl, h⟩
  obtain ⟨u, hu⟩ : ∃ u : Nat, (n % 18446744073709551616).toNat = u := ⟨_, rfl⟩
  have e1 : IntKind.u64.wrap n = (u : Int) := by rw [IntKind.wrap_u64]; omega
  have hu64 : u < 18446744073709551616 := by omega
  have eL : hexL n = [48, 102] ++ hexF 16 u := by unfold hexL; rw [hu]
  generalize hexL n = L at *
  generalize hQ : SayP w w L = Q
  rw [hQ] at HF
  clear hu
  go_enter Tryz.func75, Tryz.ntmps75
  go_wp2_with fail
  go_loopw [3, 4] (fun o i wr => ∃ j : Nat, i = .int .i64 ((j : Int) - 1) ∧ j ≤ 16 ∧ HxR w wr o ([48, 102] ++ hexF (16 - j) (u / 16 ^ j))) (fun _ i _ => (intOf i + 1).toNat)
  case atStart =>
    exact ⟨16, rfl, Nat.le_refl _, .inr ⟨rfl, later1 _ _, rfl, cell_new _ _ _ _ _ _ rfl, cell_new _ _ _ _ _ _ rfl⟩⟩
  case round =>
    obtain ⟨j, rfl, hj, hR⟩ := hrel
    cases j with
    | zero =>
      have hR' : Bf w w wr u3 L := by
        rcases hR with h | ⟨h, _⟩
        · rw [eL]; simpa using h
        · exfalso
          have h1 := congrArg List.length h
          rw [List.length_append, hexF_len] at h1
          simp at h1
      have hm : ((0 : Nat) : Int) - 1 = -1 := rfl
      rw [hm]
      go_wp2_with fail
      exact HF.out _ _ hR'
    | succ k =>
      have hk : ((k + 1 : Nat) : Int) - 1 = (k : Int) := by omega
      rw [hk]
      obtain ⟨D, hD, hD16, hDe⟩ : ∃ D : Nat, bits .and .u64 ((u : Int) / 2 ^ (4 * k)) 15 = (D : Int) ∧ D < 16 ∧ Hid (D = u / 16 ^ k % 16) := ⟨_, and15 u k hu64, Nat.mod_lt _ (by decide), rfl⟩
      have hst : [48, 102] ++ hexF (16 - k) (u / 16 ^ k) = ([48, 102] ++ hexF (16 - (k + 1)) (u / 16 ^ (k + 1))) ++ [hexD D] := by
        have : 16 - k = (16 - (k + 1)) + 1 := by omega
        rw [this, hexF_step, hDe.out, List.append_assoc]
      have hln : ([48, 102] ++ hexF (16 - (k + 1)) (u / 16 ^ (k + 1))).length ≤ 18 := by rw [List.length_append, hexF_len]; simp; omega
      have hst' : Hid (∀ v' w', Bf w w w' v' (([48, 102] ++ hexF (16 - (k + 1)) (u / 16 ^ (k + 1))) ++ [hexD D]) → HxR w w' v' ([48, 102] ++ hexF (16 - k) (u / 16 ^ k))) := fun v' w' h => .inl (by rw [hst]; exact h)
      have hlit := hex_lit D hD16
      clear hst
      generalize [48, 102] ++ hexF (16 - (k + 1)) (u / 16 ^ (k + 1)) = zs at *
      rcases hR with h | ⟨h, hla, rfl, hc0, hc1⟩
      · obtain ⟨a, M, cap, rfl, hM⟩ := h.shape2
        have hs := h.2.size
        go_wp2_with (at_builtin; refine wpList_append_own _ rfl _ _ 27 rfl w.heap.size 5 i0 (.int .u8 0) 1 1 Tryz.underlying27 hi hz0 hz1 hz2 rfl (by decide) _ _ _ rfl (h.alloc _).1 ⟨wr.heap.size, 0, none⟩ 1 1 [.int .u8 _] rfl rfl (new_oneb _ _) (by simp [Value.oneCell']) (by unfold maxLen; omega) (by omega) (by simp; omega) ?_; intro v3 w3 o3 g3 _)
        go_roundw
        case rel => exact ⟨k, rfl, by omega, hst'.out _ _ ((h.alloc _).put o3 rfl rfl g3)⟩
        case measure => simp [intOf]
      · have hs := hla.size
        subst h
        go_wp2_with (at_builtin; refine wpList_append_grows _ rfl _ _ 27 rfl 5 i0 (.int .u8 0) 1 1 Tryz.underlying27 hi hz0 hz1 hz2 rfl (by decide) _ 2 2 [.int .u8 48, .int .u8 102] rfl (fun h => by cases h) rfl (two_cells hc0 hc1 _) ⟨wr.heap.size, 0, none⟩ 1 1 [.int .u8 _] rfl rfl (new_oneb _ _) (by simp [Value.oneCell']) (by decide) (by decide) (by decide) ?_; intro v3 w3 o3 g3)
        have hb : Bf w w w3 v3 ([48, 102] ++ [hexD D]) := ⟨own_monob o3 (by simp; omega), (hla.trans (later1 _ _)).trans' (v := .slice none 0 0) g3 (fun _ h => by cases h), ((hla.trans (later1 _ _)).trans' (v := .slice none 0 0) g3 (fun _ h => by cases h)).k8⟩
        go_roundw
        case rel => exact ⟨k, rfl, by omega, hst'.out _ _ hb⟩
        case measure => simp [intOf]
end Go.Proofs.YtbigjeejmacjcaaGreatDoor
