/- Numbers as digits: l3digits, l3dec. -/
import Derived.Test.YtleakieppapjmaaDoorK5
namespace Go.Proofs.YtleakieppapjmaaDoor
open Go.RowKit

def digF : Nat → Nat → List Int
  | 0, _ => []
  | f + 1, u => if u < 10 then [48 + (u : Int)] else digF f (u / 10) ++ [48 + ((u % 10 : Nat) : Int)]

theorem own_new (w : World) (z : Int) : (w.alloc (.cells #[.int .u8 z] 5)).ownsRow w.heap.size 5 1 (.slice (some ⟨w.heap.size, 0, none⟩) 1 1) 1 [.int .u8 z] :=
  ⟨rfl, .inr ⟨w.heap.size, 1, #[.int .u8 z], rfl, Nat.le_refl _, by show (w.heap.push _)[w.heap.size]? = _; simp, Nat.le_refl _, by unfold maxLen; omega, rfl, rfl⟩⟩
theorem later_ownb {w w' : World} {b : Nat} {v : Value} {n : Nat} {xs : List Value} (h : w.ownsRow b 5 1 v n xs) (hb : Later w w') : w'.ownsRow b 5 1 v n xs :=
  h.kept (row := none) ⟨hb.os, hb.tape, hb.output, hb.size, fun k hk _ => hb.block k hk⟩ (by cases h : v.ownBlock <;> simp)
theorem own_monob {w : World} {b B : Nat} {v : Value} {n : Nat} {xs : List Value} (h : w.ownsRow B 5 1 v n xs) (hb : b ≤ B) : w.ownsRow b 5 1 v n xs := by
  refine ⟨h.1, ?_⟩
  rcases h.2 with h | ⟨g, cap, cur, h1, h2, h3⟩
  · exact .inl h
  · exact .inr ⟨g, cap, cur, h1, Nat.le_trans hb h2, h3⟩
theorem own_lt_b {w : World} {base n : Nat} {v : Value} {xs : List Value} (h : w.ownsRow base 5 1 v n xs) : ∀ g, v.ownBlock = some g → base ≤ g := fun g hg => (h.lt g hg).1
theorem Later.trans' {w w1 w2 : World} {v : Value} (h : Later w w1) (g : w1.grownBy w2 v.ownBlock) (hb : ∀ g, v.ownBlock = some g → w.heap.size ≤ g) : Later w w2 :=
  Below.grown h g h.size hb
theorem new_oneb (w : World) (z : Int) : ∀ j u, [Value.int .u8 z][j]? = some u → (w.alloc (.cells #[.int .u8 z] 5)).cell? ((⟨w.heap.size, 0, none⟩ : Addr).add j) = some u := by
  intro j u h
  match j with
  | 0 =>
    have : Value.int .u8 z = u := by simpa using h
    rw [← this, Addr.add_zero']
    simp
  | j + 1 => simp at h
theorem digF_len (k u : Nat) : (digF k u).length ≤ k := by
  induction k generalizing u with
  | zero => simp [digF]
  | succ k ih =>
    unfold digF
    split
    · simp
    · have := ih (u / 10); simp; omega
theorem wrap8 {z : Int} (h0 : 0 ≤ z) (h1 : z ≤ 255) : IntKind.u8.wrap z = z := by
  rw [IntKind.wrap_u8]; omega

set_option maxRecDepth 20000 in
set_option maxHeartbeats 1000000 in
theorem digits_any (k : Nat) : ∀ (u : Nat) (w : World), k ≤ 20 → u < 10 ^ k → 0 < k → u < 18446744073709551616 →
    Calls Tryd.prog 33 #[.int .u64 (u : Int)] w fun e w' => ∃ v, e = .returned v ∧ w'.ownsRow w.heap.size 5 1 v (digF k u).length ((digF k u).map (Value.int .u8)) ∧ Later w w' := by
  obtain ⟨i0, hi, hz0, hz1, hz2⟩ := info_parts Tryd.info5
  induction k with
  | zero => intro u w _ _ h _; exact absurd h (Nat.lt_irrefl _)
  | succ k ih =>
    intro u w hk hu _ hu64
    by_cases hlt : u < 10
    · have e : digF (k + 1) u = [48 + (u : Int)] := by unfold digF; rw [if_pos hlt]
      have h1 : (u : Int) < 10 := by omega
      have hw8 := wrap8 (z := 48 + (u : Int)) (by omega) (by omega)
      have ho := own_new w (48 + (u : Int))
      rw [e]
      clear ih
      go_enter Tryd.func33, Tryd.ntmps33
      go_wp2_with fail
      go_ret
      exact ⟨_, rfl, ho, later1 _ _⟩
    · have e : digF (k + 1) u = digF k (u / 10) ++ [48 + ((u % 10 : Nat) : Int)] := by rw [digF, if_neg hlt]
      have h1 : ¬ (u : Int) < 10 := by omega
      have hk0 : 0 < k := by
        rcases Nat.eq_zero_or_pos k with h | h
        · subst h; simp at hu; omega
        · exact h
      have hq : (u : Int) / 10 = ((u / 10 : Nat) : Int) := by omega
      have hq' : (u : Int) % 10 = ((u % 10 : Nat) : Int) := by omega
      have hI := ih (u / 10) w (by omega) (by rw [Nat.pow_succ] at hu; omega) hk0 (by omega)
      have hl := digF_len k (u / 10)
      have hw8 := wrap8 (z := 48 + ((u % 10 : Nat) : Int)) (by omega) (by omega)
      rw [e]
      generalize digF k (u / 10) = ds at *
      have hm : u % 10 < 10 := Nat.mod_lt _ (by decide)
      generalize u % 10 = m at *
      generalize u / 10 = q at *
      clear ih e
      go_enter Tryd.func33, Tryd.ntmps33
      go_wp2_with fail
      refine hI.mono ?_
      rintro e w1 ⟨v1, rfl, o1, l1⟩
      have o2 := o1.alloc (.cells #[.int .u8 (48 + (m : Int))] 5)
      have hs1 := l1.size
      obtain ⟨a1, p1, rfl⟩ : ∃ a cap, v1 = .slice a ds.length cap := by
        rcases o1.2 with ⟨rfl, h0⟩ | ⟨g, cap, _, rfl, _⟩
        · exact ⟨_, _, by rw [h0]⟩
        · exact ⟨_, _, rfl⟩
      go_wp2_with (at_builtin; refine wpList_append_own _ rfl _ _ 22 rfl w.heap.size 5 i0 (.int .u8 0) 1 1 Tryd.underlying22 hi hz0 hz1 hz2 rfl (by decide) _ _ _ rfl o2 ⟨w1.heap.size, 0, none⟩ 1 1 [.int .u8 (48 + (m : Int))] rfl rfl (new_oneb _ _) (by simp [Value.oneCell']) (by unfold maxLen; omega) (by omega) (by simp; omega) ?_; intro v3 w3 o3 g3 _)
      go_ret
      refine ⟨_, rfl, ?_, ?_⟩
      · rw [List.length_append, List.map_append]; exact o3
      · exact (l1.trans (later1 _ _)).trans' g3 (own_lt_b o2)

/-- A number in decimal. -/
def decL (n : Int) : List Int := if n < 0 then 45 :: digF 20 (-n).toNat else digF 20 n.toNat
theorem digF_pos (k u : Nat) : 0 < (digF (k + 1) u).length := by
  unfold digF
  split <;> simp

set_option maxRecDepth 20000 in
set_option maxHeartbeats 1000000 in
theorem dec_any (n : Int) (w : World) (hn : InR n) : Calls Tryd.prog 21 #[.int .i64 n] w fun e w' => ∃ v, e = .returned v ∧ w'.ownsRow w.heap.size 5 1 v (decL n).length ((decL n).map (Value.int .u8)) ∧ Later w w' := by
  obtain ⟨i0, hi, hz0, hz1, hz2⟩ := info_parts Tryd.info5
  unfold InR at hn
  by_cases hneg : n < 0
  · have e : decL n = 45 :: digF 20 (-n).toNat := by unfold decL; rw [if_pos hneg]
    have e1 : IntKind.u64.wrap n = n + 18446744073709551616 := by rw [IntKind.wrap_u64]; omega
    have e2 : IntKind.u64.wrap (-(n + 18446744073709551616)) = ((-n).toNat : Int) := by rw [IntKind.wrap_u64]; omega
    have hI := digits_any 20 (-n).toNat (w.alloc (.cells #[.int .u8 45] 5)) (Nat.le_refl _) (by omega) (by decide) (by omega)
    have hl := digF_len 20 (-n).toNat
    have hp := digF_pos 19 (-n).toNat
    rw [e]
    generalize digF 20 (-n).toNat = ds at *
    generalize (-n).toNat = m at *
    clear e
    go_enter Tryd.func21, Tryd.ntmps21
    go_wp2_with fail
    refine hI.mono ?_
    rintro e w1 ⟨v1, rfl, o1, l1⟩
    have hs1 := l1.size
    have om := later_ownb (own_new w 45) l1
    have hal : w.heap.size < (w.alloc (.cells #[.int .u8 45] 5)).heap.size := by simp
    rcases o1.2 with ⟨_, h0⟩ | ⟨g1, p1, cur1, hv1, hb1, _⟩
    · omega
    subst hv1
    have hsrc : ∀ j u, (ds.map (Value.int .u8))[j]? = some u → w1.cell? ((⟨g1, 0, none⟩ : Addr).add j) = some u := fun j u hj => by
      have hj' : j < ds.length := by
        rcases Nat.lt_or_ge j ds.length with h | h
        · exact h
        · rw [List.getElem?_eq_none (by simpa using h)] at hj; cases hj
      rw [Addr.add_lit, Nat.zero_add, o1.cellAt j (by omega)]
      exact hj
    have hone : ∀ u ∈ ds.map (Value.int .u8), u.oneCell' = true := fun u hu => by
      obtain ⟨z, _, rfl⟩ := List.mem_map.1 hu
      rfl
    obtain ⟨X, hX⟩ : ∃ X, Hid (X = ds.map (Value.int .u8)) := ⟨_, rfl⟩
    have hXl : X.length = ds.length := by rw [hX.out]; simp
    rw [← hX.out] at hsrc hone
    clear o1 hI
    go_wp2_with (at_builtin; refine wpList_append_own _ rfl _ _ 22 rfl w.heap.size 5 i0 (.int .u8 0) 1 1 Tryd.underlying22 hi hz0 hz1 hz2 rfl (by decide) _ _ _ rfl om ⟨g1, 0, none⟩ ds.length p1 X rfl (by rw [hXl, Nat.mul_one]) hsrc hone (by unfold maxLen; omega) (by omega) (by omega) ?_; intro v3 w3 o3 g3 _)
    go_ret
    refine ⟨_, rfl, ?_, ?_⟩
    · rw [hX.out, Nat.add_comm] at o3; exact o3
    · exact ((later1 _ _).trans l1).trans' g3 (own_lt_b om)
  · have e : decL n = digF 20 n.toNat := by unfold decL; rw [if_neg hneg]
    have e1 : IntKind.u64.wrap n = (n.toNat : Int) := by rw [IntKind.wrap_u64]; omega
    have hI := digits_any 20 n.toNat w (Nat.le_refl _) (by omega) (by decide) (by omega)
    rw [e]
    generalize digF 20 n.toNat = ds at *
    generalize n.toNat = m at *
    clear e
    go_enter Tryd.func21, Tryd.ntmps21
    go_wp2_with fail
    refine hI.mono ?_
    rintro e w1 ⟨v1, rfl, o1, l1⟩
    go_wp2_with fail
    go_ret
    exact ⟨_, rfl, o1, l1⟩

end Go.Proofs.YtleakieppapjmaaDoor
