/- A new cursor. -/
import Derived.Test.YtlfkjjnhlkaipaaD2
namespace Go.Proofs.Ytlfkjjnhlkaipaa
open Go.RowKit

/-- The bytes of a slice that came in can be read, below the heap's end. -/
def Bytes (w : World) (a : Option Addr) (len : Nat) : Prop :=
  (len : Int) ≤ 9223372036854775807 ∧ ∀ j, j < len → ∃ (bx off : Nat) (v : Int), a = some ⟨bx, off, none⟩ ∧ bx < w.heap.size ∧ w.cell? ⟨bx, off + j, none⟩ = some (.int .u8 v) ∧ 0 ≤ v ∧ v ≤ 255

theorem build50 (a : Option Addr) (len cap : Nat) (h : Int) (w : World) : (Instr.build 83 #[(0, .slice a len cap), (2, .int .i64 h)]).run Try.prog w = .ok (.agg #[.slice a len cap, .int .i64 0, .int .i64 h]) w := run_build w 83 _ _ (by kernel_rfl)

set_option maxRecDepth 20000 in
set_option maxHeartbeats 800000 in
theorem new_any (a : Option Addr) (len cap : Nat) (w : World) (hb : Bytes w a len) :
    Calls Try.prog 21 #[.slice a len cap] w fun e w' => ∃ h : Int, e = .returned (.pointer (some ⟨w.heap.size, 0, none⟩)) ∧ w' = w.alloc (.cells #[.slice a len cap, .int .i64 0, .int .i64 h] 83) := by
  have hbl := build50
  obtain ⟨hl, hbs⟩ := hb
  go_enter Try.func21, Try.ntmps21
  go_wp2
  go_loop [3, 4] (fun h i => ∃ (k : Nat) (z : Int), h = .int .i64 z ∧ i = .int .i64 (k : Int) ∧ k ≤ 4000 ∧ k ≤ len) (fun _ i => len - (intOf i).toNat)
  case atStart => exact ⟨0, _, rfl, rfl, by decide, Nat.zero_le _⟩
  case round =>
    obtain ⟨k, z, rfl, rfl, hk, hkl⟩ := hrel
    by_cases hlt : k < len
    · obtain ⟨bx, off, v, rfl, hbx, hcv, hv0, hv1⟩ := hbs k hlt
      have hlt' : (k : Int) < (len : Int) := by omega
      by_cases h4 : k < 4000
      · go_wp2
        go_round
        case rel => exact ⟨k + 1, _, rfl, by go_num, by omega, by omega⟩
        case measure => simp [intOf]; omega
      · go_wp2
        go_ret
        exact ⟨rfl, _, rfl⟩
    · have hlt' : decide ((k : Int) < (len : Int)) = false := by simp; omega
      go_wp2
      go_ret
      exact ⟨rfl, _, rfl⟩

theorem Bytes.later {w w' : World} {a : Option Addr} {len : Nat} (h : Bytes w a len) (hb : Later w w') : Bytes w' a len := by
  refine ⟨h.1, fun j hj => ?_⟩
  obtain ⟨bx, off, v, e1, e2, e3, e4⟩ := h.2 j hj
  exact ⟨bx, off, v, e1, Nat.lt_of_lt_of_le e2 hb.size, by rw [Below.cell hb (p := ⟨bx, off + j, none⟩) e2]; exact e3, e4⟩

/-- A new cursor. -/
theorem new_at {a : Option Addr} {len : Nat} (cap : Nat) {w : World} (hb : Bytes w a len) :
    Calls Try.prog 21 #[.slice a len cap] w fun e w' => ∃ K, e = .returned (.pointer (some ⟨K, 0, none⟩)) ∧ At w.heap.size K a len cap w' w' ∧ Later w w' ∧ w.heap.size ≤ K := by
  refine (new_any a len cap w hb).mono ?_
  rintro e w' ⟨h, rfl, rfl⟩
  have hlat : Later w (w.alloc (.cells #[.slice a len cap, .int .i64 0, .int .i64 h] 83)) := (Below.refl _ _).alloc (Nat.le_refl _) _
  refine ⟨_, rfl, At.start ⟨?_, ⟨0, ?_, Int.le_refl _, by omega⟩, ⟨h, ?_⟩, ?_, ?_, Nat.le_refl _, by simp, hb.1, ?_⟩, hlat, Nat.le_refl _⟩
  · simp
  · simp
  · simp
  · exact World.frozen?_alloc_new w _ _ _
  · exact World.frozen?_alloc_new w _ _ _
  · exact fun j hj => by
      obtain ⟨bx, off, v, e1, e2, e3, e4⟩ := hb.2 j hj
      exact ⟨bx, off, v, e1, e2, by rw [Below.cell hlat (p := ⟨bx, off + j, none⟩) e2]; exact e3, e4⟩

theorem At.done {B K : Nat} {a : Option Addr} {len cap : Nat} {w w0 w' : World} (h : At B K a len cap w0 w') (hl : Later w w0) (hK : w.heap.size ≤ K) : Later w w' :=
  Below.trans hl (h.only.below hK hl.size)

end Go.Proofs.Ytlfkjjnhlkaipaa
