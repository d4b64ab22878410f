/- The walks over the functions that draw: the cursor and its bytes. -/
import Derived.Test.YtlfkjjnhlkaipaaProg
import Derived.WalkKit
import Derived.WalkSpells
import Derived.WalkLawsBesides
import Derived.Deep.QuietTactic
import Derived.BigQuiet
namespace Go.Proofs.Ytlfkjjnhlkaipaa
open Go.RowKit

/-- Nothing that was there has turned. -/
def Later (w w' : World) : Prop := Below w.heap.size w w'
theorem Later.refl (w : World) : Later w w := Below.refl _ _
theorem Later.drew (w : World) : Later w w.drew := (Below.refl _ _).drew
theorem Later.trans {a b c : World} (h : Later a b) (k : Later b c) : Later a c := Below.trans h (Below.mono k h.size)
theorem ret_int {k : IntKind} {a b : Int} (h : a = b) : Ending.returned (.int k a) = .returned (.int k b) := by rw [h]

/-- Of what was there only block K may have turned. -/
structure OnlyK (K : Nat) (w w' : World) : Prop where
  os : w'.os = w.os
  tape : w'.tape = w.tape
  output : w'.output = w.output
  size : w.heap.size ≤ w'.heap.size
  block : ∀ k, k < w.heap.size → k ≠ K → w'.heap[k]? = w.heap[k]?
theorem OnlyK.refl (K : Nat) (w : World) : OnlyK K w w := ⟨rfl, rfl, rfl, Nat.le_refl _, fun _ _ _ => rfl⟩
theorem OnlyK.trans {K : Nat} {a b c : World} (h : OnlyK K a b) (k : OnlyK K b c) : OnlyK K a c :=
  ⟨k.os.trans h.os, k.tape.trans h.tape, k.output.trans h.output, Nat.le_trans h.size k.size, fun i hi hn => (k.block i (Nat.lt_of_lt_of_le hi h.size) hn).trans (h.block i hi hn)⟩
theorem OnlyK.drewN {K : Nat} {a w : World} (h : OnlyK K a w) (n : Nat) : OnlyK K a (w.drewN n) := h.trans ⟨rfl, rfl, rfl, Nat.le_refl _, fun _ _ _ => rfl⟩
theorem OnlyK.set {K : Nat} {a w : World} (h : OnlyK K a w) (o : Nat) (u : Value) : OnlyK K a (w.setCell ⟨K, o, none⟩ u) :=
  h.trans ⟨rfl, rfl, rfl, by simp [World.setCell], fun k _ hn => Below.heap_setCell _ _ _ _ hn⟩
theorem OnlyK.alloc {K : Nat} {a w : World} (h : OnlyK K a w) (o : Obj) : OnlyK K a (w.alloc o) :=
  h.trans ⟨rfl, rfl, rfl, by simp, fun _ hk _ => Below.heap_alloc _ _ _ hk⟩
theorem OnlyK.below {K B : Nat} {w w' : World} (h : OnlyK K w w') (hB : B ≤ K) (hs : B ≤ w.heap.size) : Below B w w' :=
  ⟨h.os, h.tape, h.output, h.size, fun k hk => h.block k (by omega) (by omega)⟩
theorem OnlyK.later {K B : Nat} {w w' : World} (h : Below B w w') (hB : w.heap.size ≤ B) : OnlyK K w w' :=
  ⟨h.os, h.tape, h.output, h.size, fun k hk _ => h.block k (by omega)⟩

/-- A cursor in block K over bytes that lie below B. -/
structure Cur (B K : Nat) (a : Option Addr) (len cap : Nat) (w : World) : Prop where
  c0 : w.cell? ⟨K, 0, none⟩ = some (.slice a len cap)
  c1 : ∃ i : Int, w.cell? ⟨K, 1, none⟩ = some (.int .i64 i) ∧ 0 ≤ i ∧ i ≤ (len : Int)
  c2 : ∃ h : Int, w.cell? ⟨K, 2, none⟩ = some (.int .i64 h)
  f1 : w.frozen? ⟨K, 1, none⟩ = false
  f2 : w.frozen? ⟨K, 2, none⟩ = false
  hB : B ≤ K
  hK : K < w.heap.size
  hl : (len : Int) ≤ 9223372036854775807
  bs : ∀ j, j < len → ∃ (bx off : Nat) (v : Int), a = some ⟨bx, off, none⟩ ∧ bx < B ∧ w.cell? ⟨bx, off + j, none⟩ = some (.int .u8 v) ∧ 0 ≤ v ∧ v ≤ 255

theorem ne_of_off {K o o' : Nat} (h : o ≠ o') : (⟨K, o, none⟩ : Addr) ≠ ⟨K, o', none⟩ := by intro e; cases e; exact h rfl
theorem ne_of_block {b K o o' : Nat} (h : b ≠ K) : (⟨K, o, none⟩ : Addr) ≠ ⟨b, o', none⟩ := by intro e; cases e; exact h rfl

theorem set_same {w : World} {a : Addr} {u v : Value} (h : w.cell? a = some u) : (w.setCell a v).cell? a = some v := World.cell?_setCell_same' w a v (by rw [h]; rfl)
theorem set_off (w : World) (K : Nat) {o o' : Nat} (v : Value) (h : o ≠ o') : (w.setCell ⟨K, o, none⟩ v).cell? ⟨K, o', none⟩ = w.cell? ⟨K, o', none⟩ := by
  apply World.cell?_setCell_other; exact ne_of_off h
theorem set_block (w : World) {b K : Nat} (o o' : Nat) (v : Value) (h : b ≠ K) : (w.setCell ⟨K, o, none⟩ v).cell? ⟨b, o', none⟩ = w.cell? ⟨b, o', none⟩ := by
  apply World.cell?_setCell_other; exact ne_of_block h
theorem Cur.drewN {B K : Nat} {a : Option Addr} {len cap : Nat} {w : World} (h : Cur B K a len cap w) (n : Nat) : Cur B K a len cap (w.drewN n) :=
  ⟨h.c0, h.c1, h.c2, h.f1, h.f2, h.hB, h.hK, h.hl, h.bs⟩
theorem Cur.set2 {B K : Nat} {a : Option Addr} {len cap : Nat} {w : World} (h : Cur B K a len cap w) (x : Int) : Cur B K a len cap (w.setCell ⟨K, 2, none⟩ (.int .i64 x)) := by
  obtain ⟨h0, hc2⟩ := h.c2
  refine ⟨?_, ?_, ⟨x, set_same hc2⟩, ?_, ?_, h.hB, ?_, h.hl, ?_⟩
  · rw [set_off _ _ _ (by decide)]; exact h.c0
  · obtain ⟨i, hi, hi'⟩ := h.c1
    exact ⟨i, by rw [set_off _ _ _ (by decide)]; exact hi, hi'⟩
  · rw [World.frozen?_setCell]; exact h.f1
  · rw [World.frozen?_setCell]; exact h.f2
  · have := h.hK; simpa [World.setCell] using this
  · intro j hj
    obtain ⟨bx, off, v, e1, e2, e3, e4⟩ := h.bs j hj
    have := h.hB
    exact ⟨bx, off, v, e1, e2, by rw [set_block _ _ _ _ (by omega)]; exact e3, e4⟩
theorem Cur.set1 {B K : Nat} {a : Option Addr} {len cap : Nat} {w : World} (h : Cur B K a len cap w) (x : Int) (hx : 0 ≤ x) (hx' : x ≤ (len : Int)) : Cur B K a len cap (w.setCell ⟨K, 1, none⟩ (.int .i64 x)) := by
  obtain ⟨i, hi, _⟩ := h.c1
  refine ⟨?_, ⟨x, set_same hi, hx, hx'⟩, ?_, ?_, ?_, h.hB, ?_, h.hl, ?_⟩
  · rw [set_off _ _ _ (by decide)]; exact h.c0
  · obtain ⟨i, hi⟩ := h.c2
    exact ⟨i, by rw [set_off _ _ _ (by decide)]; exact hi⟩
  · rw [World.frozen?_setCell]; exact h.f1
  · rw [World.frozen?_setCell]; exact h.f2
  · have := h.hK; simpa [World.setCell] using this
  · intro j hj
    obtain ⟨bx, off, v, e1, e2, e3, e4⟩ := h.bs j hj
    have := h.hB
    exact ⟨bx, off, v, e1, e2, by rw [set_block _ _ _ _ (by omega)]; exact e3, e4⟩
/-- Where nothing up to K has turned the cursor stands. -/
theorem Cur.later {B K : Nat} {a : Option Addr} {len cap : Nat} {w w' : World} (h : Cur B K a len cap w) (hb : Below (K + 1) w w') : Cur B K a len cap w' := by
  have hc : ∀ o, w'.cell? ⟨K, o, none⟩ = w.cell? ⟨K, o, none⟩ := fun o => hb.cell (p := ⟨K, o, none⟩) (Nat.lt_succ_self K)
  have hf : ∀ o, w'.frozen? ⟨K, o, none⟩ = w.frozen? ⟨K, o, none⟩ := fun o => hb.frozen (p := ⟨K, o, none⟩) (Nat.lt_succ_self K)
  refine ⟨by rw [hc]; exact h.c0, ?_, ?_, by rw [hf]; exact h.f1, by rw [hf]; exact h.f2, h.hB, Nat.lt_of_lt_of_le h.hK hb.size, h.hl, ?_⟩
  · obtain ⟨i, hi, hi'⟩ := h.c1
    exact ⟨i, by rw [hc]; exact hi, hi'⟩
  · obtain ⟨i, hi⟩ := h.c2
    exact ⟨i, by rw [hc]; exact hi⟩
  · intro j hj
    obtain ⟨bx, off, v, e1, e2, e3, e4⟩ := h.bs j hj
    have := h.hB
    exact ⟨bx, off, v, e1, e2, by rw [hb.cell (p := ⟨bx, off + j, none⟩) (show bx < K + 1 by omega)]; exact e3, e4⟩

theorem i64_and255 (n : Int) : bits .and .i64 n 255 = n % 256 := by
  have h255 : (BitVec.ofInt 64 255).toNat = 2 ^ 8 - 1 := by decide
  have key : (BitVec.ofInt 64 n &&& BitVec.ofInt 64 255).toNat = (n % ((2 ^ 64 : Nat) : Int)).toNat % 2 ^ 8 := by
    rw [BitVec.toNat_and, BitVec.toNat_ofInt, h255, Nat.and_two_pow_sub_one_eq_mod]
  show IntKind.i64.wrap ((BitVec.ofInt 64 n &&& BitVec.ofInt 64 255).toNat : Nat) = n % 256
  rw [key, IntKind.wrap_i64]
  omega
theorem and255_lo (n : Int) : 0 ≤ bits .and .i64 n 255 := by rw [i64_and255]; omega
theorem and255_hi (n : Int) : bits .and .i64 n 255 ≤ 255 := by rw [i64_and255]; omega

set_option maxRecDepth 20000 in
set_option maxHeartbeats 400000 in
theorem byte_end (K : Nat) (a : Option Addr) (len cap : Nat) (i h : Int) (w : World) (c0 : w.cell? ⟨K, 0, none⟩ = some (.slice a len cap)) (c1 : w.cell? ⟨K, 1, none⟩ = some (.int .i64 i)) (c2 : w.cell? ⟨K, 2, none⟩ = some (.int .i64 h))
    (f2 : w.frozen? ⟨K, 2, none⟩ = false) (hi : ¬ i < (len : Int)) :
    Calls Try.prog 66 #[.pointer (some ⟨K, 0, none⟩)] w fun e w' => ∃ (v h' : Int) (n m : Nat), e = .returned (.int .i64 v) ∧ 0 ≤ v ∧ v ≤ 255 ∧ w' = ((w.setCell ⟨K, 2, none⟩ (.int .i64 h')).drewN n).drewN m := by
  go_enter Try.func66, Try.ntmps66
  go_wp2
  go_quiet (fail)
  go_wp2
  go_quiet (fail)
  go_wp2
  go_ret
  exact ⟨_, _, _, _, rfl, and255_lo _, and255_hi _, rfl⟩

set_option maxRecDepth 20000 in
set_option maxHeartbeats 400000 in
theorem byte_more (K : Nat) (bx off len cap : Nat) (i h v0 : Int) (w : World) (c0 : w.cell? ⟨K, 0, none⟩ = some (.slice (some ⟨bx, off, none⟩) len cap)) (c1 : w.cell? ⟨K, 1, none⟩ = some (.int .i64 i)) (c2 : w.cell? ⟨K, 2, none⟩ = some (.int .i64 h))
    (f1 : w.frozen? ⟨K, 1, none⟩ = false) (f2 : w.frozen? ⟨K, 2, none⟩ = false) (hi : i < (len : Int)) (hi0 : 0 ≤ i) (hl : (len : Int) ≤ 9223372036854775807)
    (cv : ∀ x, (w.setCell ⟨K, 2, none⟩ x).cell? ⟨bx, off + i.toNat, none⟩ = some (.int .u8 v0)) (hv0 : 0 ≤ v0) (hv1 : v0 ≤ 255) :
    Calls Try.prog 66 #[.pointer (some ⟨K, 0, none⟩)] w fun e w' => ∃ (v h' : Int) (n : Nat), e = .returned (.int .i64 v) ∧ 0 ≤ v ∧ v ≤ 255 ∧ w' = ((w.setCell ⟨K, 2, none⟩ (.int .i64 h')).drewN n).setCell ⟨K, 1, none⟩ (.int .i64 (i + 1)) := by
  go_enter Try.func66, Try.ntmps66
  go_wp2
  go_quiet (fail)
  go_wp2
  go_quiet (fail)
  go_wp2
  go_quiet (fail)
  go_wp2
  go_ret
  exact ⟨_, _, _, rfl, and255_lo _, and255_hi _, rfl⟩

theorem byte_any {B K : Nat} {a : Option Addr} {len cap : Nat} {w : World} (hc : Cur B K a len cap w) :
    Calls Try.prog 66 #[.pointer (some ⟨K, 0, none⟩)] w fun e w' => ∃ v : Int, e = .returned (.int .i64 v) ∧ 0 ≤ v ∧ v ≤ 255 ∧ Cur B K a len cap w' ∧ OnlyK K w w' := by
  obtain ⟨i, c1, i0, i1⟩ := hc.c1
  obtain ⟨h, c2⟩ := hc.c2
  by_cases hi : i < (len : Int)
  · obtain ⟨bx, off, v0, rfl, hbx, cv, v1, v2⟩ := hc.bs i.toNat (by omega)
    have hB := hc.hB
    refine (byte_more K bx off len cap i h v0 w hc.c0 c1 c2 hc.f1 hc.f2 hi i0 hc.hl (fun x => by rw [set_block _ _ _ _ (by omega)]; exact cv) v1 v2).mono ?_
    rintro e w' ⟨v, h', n, rfl, a1, a2, rfl⟩
    exact ⟨v, rfl, a1, a2, ((hc.set2 h').drewN n).set1 (i + 1) (by omega) (by omega), (((OnlyK.refl K w).set 2 _).drewN n).set 1 _⟩
  · refine (byte_end K a len cap i h w hc.c0 c1 c2 hc.f2 hi).mono ?_
    rintro e w' ⟨v, h', n, m, rfl, a1, a2, rfl⟩
    exact ⟨v, rfl, a1, a2, ((hc.set2 h').drewN n).drewN m, (((OnlyK.refl K w).set 2 _).drewN n).drewN m⟩

end Go.Proofs.Ytlfkjjnhlkaipaa
