/- The walks over the functions that draw: bits of floats, a new cursor. -/
import Derived.Test.YtedhmidodcbegaaD2
namespace Go.Proofs.Ytedhmidodcbegaa
open Go.RowKit

theorem wrap64_inR (n : Int) : InR (wrap64 n) := by unfold InR wrap64; omega
theorem cb_inR (b : Nat) : InR (cb b) := by
  unfold cb
  split
  · unfold InR; omega
  · exact wrap64_inR _

theorem pick15_at {B K : Nat} {a : Option Addr} {len cap : Nat} {w0 w : World} (h : At B K a len cap w0 w) :
    Calls Try.prog 34 #[.pointer (some ⟨K, 0, none⟩), .slice (some ⟨w.heap.size, 0, none⟩) 15 15] (w.alloc (.cells #[.int .i64 0, .int .i64 (-9223372036854775808), .int .i64 1, .int .i64 (-9223372036854775807), .int .i64 9218868437227405312, .int .i64 (-4503599627370496), .int .i64 9221120237041090561, .int .i64 9221120237041090560, .int .i64 (-1), .int .i64 9218868437227405311, .int .i64 4503599627370496, .int .i64 4890909195324358656, .int .i64 (-4332462841530417152), .int .i64 4602678819172646912, .int .i64 4890909195324358655] 3)) fun e w' => ∃ v : Int, e = .returned (.int .i64 v) ∧ InR v ∧ At B K a len cap w0 w' :=
  pick_at h _ 15 rfl (by decide) (by decide) (by decide +kernel)

set_option maxRecDepth 20000 in
set_option maxHeartbeats 800000 in
theorem lbits_at {B K : Nat} {a : Option Addr} {len cap : Nat} {w0 w : World} (h : At B K a len cap w0 w) :
    Calls Try.prog 27 #[.pointer (some ⟨K, 0, none⟩)] w fun e w' => ∃ v : Int, e = .returned (.int .i64 v) ∧ InR v ∧ At B K a len cap w0 w' := by
  have r4 := run_ar_quo
  go_enter Try.func27, Try.ntmps27
  go_wp2_with (first | (go_at_call 32; refine (below_at (by assumption) _ (by decide) (by decide)).mono ?_; rintro e w1 ⟨v, rfl, v0, v1, hc1⟩) | (go_at_call 34; refine (pick15_at (by assumption)).mono ?_; rintro e w2 ⟨v2, rfl, hv2, hc2⟩) | (go_at_call 36; refine (int_at (by assumption)).mono ?_; rintro e w2 ⟨v2, rfl, hv2, hc2⟩) | (go_at_call 25; refine (sfromint_any _ _).mono ?_; rintro e w3 ⟨rfl, rfl⟩) | (go_at_call 22; refine (sbits_any _ (arN_lt _ _ _ _) _).mono ?_; rintro e w3 ⟨rfl, rfl⟩))
  · go_ret
    exact ⟨_, rfl, hv2, hc2⟩
  · go_ret
    exact ⟨_, rfl, cb_inR _, hc1⟩
  · go_ret
    exact ⟨_, rfl, cb_inR _, At.later hc1 (arW_later _ _ _ _)⟩
  · go_ret
    exact ⟨_, rfl, hv2, hc2⟩
  · go_ret
    exact ⟨_, rfl, cb_inR _, At.later hc1 (arW_later _ _ _ _)⟩

/-- The bytes of a slice that came in can be read, below the heap's end. -/
def Bytes (w : World) (a : Option Addr) (len : Nat) : Prop :=
  (len : Int) ≤ 9223372036854775807 ∧ ∀ j, j < len → ∃ (bx off : Nat) (v : Int), a = some ⟨bx, off, none⟩ ∧ bx < w.heap.size ∧ w.cell? ⟨bx, off + j, none⟩ = some (.int .u8 v) ∧ 0 ≤ v ∧ v ≤ 255

theorem build50 (a : Option Addr) (len cap : Nat) (h : Int) (w : World) : (Instr.build 50 #[(0, .slice a len cap), (2, .int .i64 h)]).run Try.prog w = .ok (.agg #[.slice a len cap, .int .i64 0, .int .i64 h]) w := run_build w 50 _ _ (by kernel_rfl)

set_option maxRecDepth 20000 in
set_option maxHeartbeats 800000 in
theorem new_any (a : Option Addr) (len cap : Nat) (w : World) (hb : Bytes w a len) :
    Calls Try.prog 28 #[.slice a len cap] w fun e w' => ∃ h : Int, e = .returned (.pointer (some ⟨w.heap.size, 0, none⟩)) ∧ w' = w.alloc (.cells #[.slice a len cap, .int .i64 0, .int .i64 h] 50) := by
  have hbl := build50
  obtain ⟨hl, hbs⟩ := hb
  go_enter Try.func28, Try.ntmps28
  go_wp2
  go_loop [3, 4] (fun h i => ∃ (k : Nat) (z : Int), h = .int .i64 z ∧ i = .int .i64 (k : Int) ∧ k ≤ 4000 ∧ k ≤ len) (fun _ i => len - (intOf i).toNat)
  case atStart => exact ⟨0, _, rfl, rfl, by decide, Nat.zero_le _⟩
  case round =>
    obtain ⟨k, z, rfl, rfl, hk, hkl⟩ := hrel
    by_cases hlt : k < len
    · obtain ⟨bx, off, v, rfl, hbx, hcv, hv0, hv1⟩ := hbs k hlt
      have hlt' : (k : Int) < (len : Int) := by omega
      by_cases h4 : k < 4000
      · go_wp2
        go_round
        case rel => exact ⟨k + 1, _, rfl, by go_num, by omega, by omega⟩
        case measure => simp [intOf]; omega
      · go_wp2
        go_ret
        exact ⟨rfl, _, rfl⟩
    · have hlt' : decide ((k : Int) < (len : Int)) = false := by simp; omega
      go_wp2
      go_ret
      exact ⟨rfl, _, rfl⟩

theorem Bytes.later {w w' : World} {a : Option Addr} {len : Nat} (h : Bytes w a len) (hb : Later w w') : Bytes w' a len := by
  refine ⟨h.1, fun j hj => ?_⟩
  obtain ⟨bx, off, v, e1, e2, e3, e4⟩ := h.2 j hj
  exact ⟨bx, off, v, e1, Nat.lt_of_lt_of_le e2 hb.size, by rw [Below.cell hb (p := ⟨bx, off + j, none⟩) e2]; exact e3, e4⟩

/-- A new cursor. -/
theorem new_at {a : Option Addr} {len : Nat} (cap : Nat) {w : World} (hb : Bytes w a len) :
    Calls Try.prog 28 #[.slice a len cap] w fun e w' => ∃ K, e = .returned (.pointer (some ⟨K, 0, none⟩)) ∧ At w.heap.size K a len cap w' w' ∧ Later w w' ∧ w.heap.size ≤ K := by
  refine (new_any a len cap w hb).mono ?_
  rintro e w' ⟨h, rfl, rfl⟩
  have hlat : Later w (w.alloc (.cells #[.slice a len cap, .int .i64 0, .int .i64 h] 50)) := (Below.refl _ _).alloc (Nat.le_refl _) _
  refine ⟨_, rfl, At.start ⟨?_, ⟨0, ?_, Int.le_refl _, by omega⟩, ⟨h, ?_⟩, ?_, ?_, Nat.le_refl _, by simp, hb.1, ?_⟩, hlat, Nat.le_refl _⟩
  · simp
  · simp
  · simp
  · exact World.frozen?_alloc_new w _ _ _
  · exact World.frozen?_alloc_new w _ _ _
  · exact fun j hj => by
      obtain ⟨bx, off, v, e1, e2, e3, e4⟩ := hb.2 j hj
      exact ⟨bx, off, v, e1, e2, by rw [Below.cell hlat (p := ⟨bx, off + j, none⟩) e2]; exact e3, e4⟩

theorem At.done {B K : Nat} {a : Option Addr} {len cap : Nat} {w w0 w' : World} (h : At B K a len cap w0 w') (hl : Later w w0) (hK : w.heap.size ≤ K) : Later w w' :=
  Below.trans hl (h.only.below hK hl.size)

set_option maxHeartbeats 400000 in
theorem drawfloat_any {a : Option Addr} {len : Nat} (cap : Nat) {w : World} (hb : Bytes w a len) :
    Calls Try.prog 12 #[.slice a len cap] w fun e w' => ∃ v : Int, e = .returned (.int .i64 v) ∧ InR v ∧ Later w w' := by
  go_enter Try.func12, Try.ntmps12
  go_wp2_with (first | (go_at_call 28; refine (new_at cap hb).mono ?_; rintro e w1 ⟨K, rfl, hat, hlat, hK⟩) | (go_at_call 27; refine (lbits_at hat).mono ?_; rintro e w2 ⟨v, rfl, hv, hat2⟩))
  go_ret
  exact ⟨_, rfl, hv, hat2.done hlat hK⟩
set_option maxHeartbeats 400000 in
theorem drawtoint_any {a : Option Addr} {len : Nat} (cap : Nat) {w : World} (hb : Bytes w a len) :
    Calls Try.prog 19 #[.slice a len cap] w fun e w' => ∃ v : Int, e = .returned (.int .i64 v) ∧ InR v ∧ Later w w' := by
  go_enter Try.func19, Try.ntmps19
  go_wp2_with (first | (go_at_call 28; refine (new_at cap hb).mono ?_; rintro e w1 ⟨K, rfl, hat, hlat, hK⟩) | (go_at_call 27; refine (lbits_at hat).mono ?_; rintro e w2 ⟨v, rfl, hv, hat2⟩))
  go_ret
  exact ⟨_, rfl, hv, hat2.done hlat hK⟩
set_option maxHeartbeats 400000 in
theorem drawfromint_any {a : Option Addr} {len : Nat} (cap : Nat) {w : World} (hb : Bytes w a len) :
    Calls Try.prog 18 #[.slice a len cap] w fun e w' => ∃ v : Int, e = .returned (.int .i64 v) ∧ InR v ∧ Later w w' := by
  go_enter Try.func18, Try.ntmps18
  go_wp2_with (first | (go_at_call 28; refine (new_at cap hb).mono ?_; rintro e w1 ⟨K, rfl, hat, hlat, hK⟩) | (go_at_call 36; refine (int_at hat).mono ?_; rintro e w2 ⟨v, rfl, hv, hat2⟩))
  go_ret
  exact ⟨_, rfl, hv, hat2.done hlat hK⟩
set_option maxHeartbeats 400000 in
theorem drawbits_any {a : Option Addr} {len : Nat} (cap : Nat) {w : World} (hb : Bytes w a len) :
    Calls Try.prog 11 #[.slice a len cap] w fun e w' => ∃ b : Nat, e = .returned (.float .f64 b) ∧ b < 18446744073709551616 ∧ Later w w' := by
  go_enter Try.func11, Try.ntmps11
  go_wp2_with (first | (go_at_call 28; refine (new_at cap hb).mono ?_; rintro e w1 ⟨K, rfl, hat, hlat, hK⟩) | (go_at_call 27; refine (lbits_at hat).mono ?_; rintro e w2 ⟨v, rfl, hv, hat2⟩) | (go_at_call 17; refine (sfl_any _ _).mono ?_; rintro e w3 ⟨x, rfl, hx, lx, hw3⟩))
  go_ret
  exact ⟨_, rfl, lx, (hat2.done hlat hK).trans hw3⟩

theorem pick3_at {B K : Nat} {a : Option Addr} {len cap : Nat} {w0 w : World} (h : At B K a len cap w0 w) :
    Calls Try.prog 34 #[.pointer (some ⟨K, 0, none⟩), .slice (some ⟨w.heap.size, 0, none⟩) 3 3] (w.alloc (.cells #[.int .i64 (-1), .int .i64 6, .int .i64 4611686018427387904] 3)) fun e w' => ∃ v : Int, e = .returned (.int .i64 v) ∧ InR v ∧ At B K a len cap w0 w' :=
  pick_at h _ 3 rfl (by decide) (by decide) (by decide +kernel)

set_option maxRecDepth 20000 in
set_option maxHeartbeats 800000 in
theorem drawarith_any {a : Option Addr} {len : Nat} (cap : Nat) {w : World} (hb : Bytes w a len) :
    Calls Try.prog 15 #[.slice a len cap] w fun e w' => ∃ o x y : Int, e = .returned (.tuple #[.int .i64 o, .int .i64 x, .int .i64 y]) ∧ InR x ∧ InR y ∧ Later w w' := by
  go_enter Try.func15, Try.ntmps15
  go_wp2_with (first | (go_at_call 28; refine (new_at cap hb).mono ?_; rintro e w1 ⟨K, rfl, hat, hlat, hK⟩) | (go_at_call 32; refine (below_at (by assumption) _ (by decide) (by decide)).mono ?_; rintro e w1 ⟨v, rfl, v0, v1, hc1⟩) | (go_at_call 33; refine (once_at (by assumption) _ (by decide) (by decide)).mono ?_; rintro e w2 ⟨bb, rfl, hc2⟩) | (go_at_call 34; refine (pick3_at (by assumption)).mono ?_; rintro e w2 ⟨v2, rfl, hv2, hc2⟩) | (go_at_call 27; refine (lbits_at (by assumption)).mono ?_; rintro e w2 ⟨v3, rfl, hv3, hc3⟩))
  all_goals
    go_ret3
    refine ⟨_, _, _, rfl, ?_, ?_, At.done (by assumption) (by assumption) (by assumption)⟩
    all_goals assumption

end Go.Proofs.Ytedhmidodcbegaa
