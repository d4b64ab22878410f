/- The walks over the functions that draw: numbers below a bound, picks, ints, bits. -/
import Derived.Test.YtlfkjjnhlkaipaaD1
namespace Go.Proofs.Ytlfkjjnhlkaipaa
open Go.RowKit

/-- The cursor stands, and since w0 only it has turned. -/
structure At (B K : Nat) (a : Option Addr) (len cap : Nat) (w0 w : World) : Prop where
  cur : Cur B K a len cap w
  only : OnlyK K w0 w
theorem At.start {B K : Nat} {a : Option Addr} {len cap : Nat} {w : World} (h : Cur B K a len cap w) : At B K a len cap w w := ⟨h, OnlyK.refl _ _⟩
theorem At.later {B K : Nat} {a : Option Addr} {len cap : Nat} {w0 w w' : World} (h : At B K a len cap w0 w) (hb : Later w w') : At B K a len cap w0 w' :=
  ⟨h.cur.later (Below.mono hb (by have := h.cur.hK; omega)), h.only.trans (OnlyK.later hb (Nat.le_refl _))⟩
theorem At.alloc {B K : Nat} {a : Option Addr} {len cap : Nat} {w0 w : World} (h : At B K a len cap w0 w) (o : Obj) : At B K a len cap w0 (w.alloc o) :=
  h.later ((Below.refl _ _).alloc (Nat.le_refl _) o)

theorem byte_at {B K : Nat} {a : Option Addr} {len cap : Nat} {w0 w : World} (h : At B K a len cap w0 w) :
    Calls Try.prog 66 #[.pointer (some ⟨K, 0, none⟩)] w fun e w' => ∃ v : Int, e = .returned (.int .i64 v) ∧ 0 ≤ v ∧ v ≤ 255 ∧ At B K a len cap w0 w' := by
  refine (byte_any h.cur).mono ?_
  rintro e w' ⟨v, rfl, v0, v1, hc, ho⟩
  exact ⟨v, rfl, v0, v1, hc, h.only.trans ho⟩

set_option maxRecDepth 20000 in
set_option maxHeartbeats 400000 in
theorem below_at {B K : Nat} {a : Option Addr} {len cap : Nat} {w0 w : World} (h : At B K a len cap w0 w) (n : Int) (h0 : 0 < n) (h1 : n ≤ 2147483647) :
    Calls Try.prog 41 #[.pointer (some ⟨K, 0, none⟩), .int .i64 n] w fun e w' => ∃ v : Int, e = .returned (.int .i64 v) ∧ 0 ≤ v ∧ v < n ∧ At B K a len cap w0 w' := by
  by_cases h2 : n ≤ 256
  all_goals
    go_enter Try.func41, Try.ntmps41
    go_wp2_with (go_at_call 66; refine (byte_at (by assumption)).mono ?_; rintro e w1 ⟨v, rfl, v0, v1, hc1⟩)
    go_ret
    exact ⟨_, rfl, Int.emod_nonneg _ (by omega), Int.emod_lt_of_pos _ h0, hc1⟩

set_option maxHeartbeats 400000 in
theorem once_at {B K : Nat} {a : Option Addr} {len cap : Nat} {w0 w : World} (h : At B K a len cap w0 w) (n : Int) (h0 : 0 < n) (h1 : n ≤ 2147483647) :
    Calls Try.prog 42 #[.pointer (some ⟨K, 0, none⟩), .int .i64 n] w fun e w' => ∃ b : Bool, e = .returned (.bool b) ∧ At B K a len cap w0 w' := by
  go_enter Try.func42, Try.ntmps42
  go_wp2_with (go_at_call 41; refine (below_at h n h0 h1).mono ?_; rintro e w1 ⟨v, rfl, v0, v1, hc1⟩)
  go_ret
  exact ⟨_, rfl, hc1⟩

/-- An int of 64 bits. -/
def InR (v : Int) : Prop := -9223372036854775808 ≤ v ∧ v ≤ 9223372036854775807

set_option maxRecDepth 20000 in
set_option maxHeartbeats 400000 in
theorem pick_any {B K L : Nat} {a : Option Addr} {len cap : Nat} {w : World} (h : Cur B K a len cap w) (m : Nat) (h0 : 0 < m) (h1 : m ≤ 1000) (hL : L ≠ K) (hLs : L < w.heap.size)
    (hcs : ∀ j, j < m → ∃ v : Int, w.cell? ⟨L, j, none⟩ = some (.int .i64 v) ∧ InR v) :
    Calls Try.prog 40 #[.pointer (some ⟨K, 0, none⟩), .slice (some ⟨L, 0, none⟩) m m] w fun e w' => ∃ v : Int, e = .returned (.int .i64 v) ∧ InR v ∧ At B K a len cap w w' := by
  have hm0 : (0 : Int) < (m : Int) := by omega
  have hm1 : (m : Int) ≤ 2147483647 := by omega
  go_enter Try.func40, Try.ntmps40
  go_wp2_with (go_at_call 41; refine (below_at (At.start h) _ hm0 hm1).mono ?_; rintro e w1 ⟨v, rfl, v0, v1, hc1⟩; obtain ⟨z, hz, hzr⟩ := hcs v.toNat (by omega); have hz1 : w1.cell? ⟨L, v.toNat, none⟩ = some (.int .i64 z) := ((World.cell?_of_block (w := w) (hc1.only.block L hLs hL)).trans hz))
  go_ret
  exact ⟨_, rfl, hzr, hc1⟩

theorem bits_inR (op : BinOp) (x y : Int) : InR (bits op .i64 x y) := by
  have : ∀ n : Int, InR (IntKind.i64.wrap n) := fun n => by rw [IntKind.wrap_i64]; unfold InR; omega
  unfold bits
  exact this _

def goodInt : Value → Bool
  | .int .i64 n => decide (-9223372036854775808 ≤ n) && decide (n ≤ 9223372036854775807)
  | _ => false
theorem goodInt_of {v : Value} (h : goodInt v = true) : ∃ n : Int, v = .int .i64 n ∧ InR n := by
  unfold goodInt at h
  split at h
  · rename_i n
    rw [Bool.and_eq_true, decide_eq_true_eq, decide_eq_true_eq] at h
    exact ⟨n, rfl, h⟩
  · cases h
theorem goodInts_get {cs : Array Value} (h : cs.toList.all goodInt = true) {j : Nat} (hj : j < cs.size) : ∃ n : Int, cs[j]? = some (.int .i64 n) ∧ InR n := by
  have h1 : cs[j]? = some cs[j] := Array.getElem?_eq_getElem hj
  have h2 : goodInt cs[j] = true := List.all_eq_true.1 h _ (by simp)
  obtain ⟨n, e, hn⟩ := goodInt_of h2
  exact ⟨n, by rw [h1, e], hn⟩

theorem pick_at {B K : Nat} {a : Option Addr} {len cap : Nat} {w0 w : World} (h : At B K a len cap w0 w) (cs : Array Value) (m : Nat) (hm : cs.size = m) (h0 : 0 < m) (h1 : m ≤ 1000) (hg : cs.toList.all goodInt = true) :
    Calls Try.prog 40 #[.pointer (some ⟨K, 0, none⟩), .slice (some ⟨w.heap.size, 0, none⟩) m m] (w.alloc (.cells cs 3)) fun e w' => ∃ v : Int, e = .returned (.int .i64 v) ∧ InR v ∧ At B K a len cap w0 w' := by
  have h2 := h.alloc (.cells cs 3)
  refine (pick_any (L := w.heap.size) h2.cur m h0 h1 (by have := h.cur.hK; omega) (by simp) ?_).mono ?_
  · intro j hj
    obtain ⟨n, hn, hr⟩ := goodInts_get hg (j := j) (by omega)
    refine ⟨n, ?_, hr⟩
    rw [← hn]
    simp
  · rintro e w' ⟨v, rfl, hv, hat⟩
    exact ⟨v, rfl, hv, hat.cur, h2.only.trans hat.only⟩

theorem pick10_at {B K : Nat} {a : Option Addr} {len cap : Nat} {w0 w : World} (h : At B K a len cap w0 w) :
    Calls Try.prog 40 #[.pointer (some ⟨K, 0, none⟩), .slice (some ⟨w.heap.size, 0, none⟩) 10 10] (w.alloc (.cells #[.int .i64 0, .int .i64 1, .int .i64 (-1), .int .i64 2, .int .i64 9223372036854775807, .int .i64 (-9223372036854775808), .int .i64 2147483647, .int .i64 (-2147483648), .int .i64 4611686018427387904, .int .i64 9007199254740993] 3)) fun e w' => ∃ v : Int, e = .returned (.int .i64 v) ∧ InR v ∧ At B K a len cap w0 w' :=
  pick_at h _ 10 rfl (by decide) (by decide) (by decide +kernel)

set_option maxRecDepth 20000 in
set_option maxHeartbeats 800000 in
theorem int_at {B K : Nat} {a : Option Addr} {len cap : Nat} {w0 w : World} (h : At B K a len cap w0 w) :
    Calls Try.prog 65 #[.pointer (some ⟨K, 0, none⟩)] w fun e w' => ∃ v : Int, e = .returned (.int .i64 v) ∧ InR v ∧ At B K a len cap w0 w' := by
  go_enter Try.func65, Try.ntmps65
  go_wp2_with (first | (go_at_call 41; refine (below_at (by assumption) _ (by decide) (by decide)).mono ?_; rintro e w1 ⟨v, rfl, v0, v1, hc1⟩) | (go_at_call 40; refine (pick10_at (by assumption)).mono ?_; rintro e w2 ⟨v2, rfl, hv2, hc2⟩))
  · go_ret
    exact ⟨_, rfl, hv2, hc2⟩
  · go_ret
    exact ⟨_, rfl, by unfold InR; omega, hc1⟩
  · go_ret
    exact ⟨_, rfl, by unfold InR; omega, hc1⟩
  · go_ret
    exact ⟨_, rfl, by unfold InR; omega, hc1⟩
  · rename (v == 0) = false => g0
    rename (v == 1) = false => g1
    rename (v == 2) = false => g2
    rename (v == 3) = false => g3
    clear g0 g1 g2 g3
    go_loopw [3, 4] (fun x i w' => ∃ (k : Nat) (z : Int), x = .int .i64 z ∧ InR z ∧ i = .int .i64 (k : Int) ∧ k ≤ 8 ∧ At B K a len cap w0 w') (fun _ i _ => 8 - (intOf i).toNat)
    case atStart => exact ⟨0, 0, rfl, by unfold InR; omega, rfl, by decide, hc1⟩
    case round =>
      obtain ⟨k, z, rfl, hz, rfl, hk, hat⟩ := hrel
      by_cases hlt : k < 8
      · go_wp2_with (go_at_call 66; refine (byte_at hat).mono ?_; rintro e w3 ⟨u, rfl, u0, u1, hc3⟩)
        go_roundw
        case rel => exact ⟨k + 1, _, rfl, bits_inR _ _ _, by go_num, by omega, hc3⟩
        case measure => simp [intOf]; omega
      · go_wp2
        go_ret
        exact ⟨_, rfl, hz, hat⟩

end Go.Proofs.Ytlfkjjnhlkaipaa
