/- impl's methods on a memory: span, load; LoadWord. -/
import Derived.Test.YtfmfkfijlfeimaaDoorIs
namespace Go.Proofs.YtfmfkfijlfeimaaDoor
open Go.RowKit

/-- An error of errors.New's make at a place. -/
abbrev errAt (x : Addr) : Value := .iface 87 (.pointer (some x))

theorem neq_held (x : Addr) (w : World) : (binOp .neq 52 (errAt x) .nilIface).run Tryd.prog w = .ok (.bool true) w := run_neq_held_nil w 52 87 (.pointer (some x)) (by rw [Tryd.underlying52]; kernel_rfl)

theorem neq_nil (w : World) : (binOp .neq 52 .nilIface .nilIface).run Tryd.prog w = .ok (.bool false) w := run_neq_nil_nil w 52 (by rw [Tryd.underlying52]; kernel_rfl)

set_option maxHeartbeats 1000000 in
theorem span_no (x : Addr) (b len cap : Nat) (a : Option Addr) (i n : Int) (w : World) (hG : Box w 0 (errAt x)) (hB : Box w b (.slice a len cap)) (hl : (len : Int) ≤ 9223372036854775807) (hi : InR i)
    (h : i < 0 ∨ n < 0 ∨ (len : Int) - i < n) :
    Calls Tryd.prog 42 #[.pointer (some ⟨b, 0, none⟩), .int .i64 i, .int .i64 n] w fun e w' => e = .returned (.tuple #[.slice none 0 0, errAt x]) ∧ Later w w' := by
  have g0 := hG.cell
  have c0 := hB.cell
  unfold InR at hi
  obtain ⟨hi1, hi2⟩ := hi
  clear hG hB
  by_cases h0 : i < 0
  · clear h
    go_enter Tryd.func42, Tryd.ntmps42
    go_wp2
    go_quiet (fail)
    go_wp2
    go_ret2
    exact ⟨rfl, later_drewN (Later.refl _) _⟩
  · by_cases h1 : n < 0
    · clear h
      go_enter Tryd.func42, Tryd.ntmps42
      go_wp2
      go_quiet (fail)
      go_wp2
      go_ret2
      exact ⟨rfl, later_drewN (Later.refl _) _⟩
    · have h2 : (len : Int) - i < n := by omega
      have r1 : -9223372036854775808 ≤ (len : Int) - i := by omega
      have r2 : (len : Int) - i ≤ 9223372036854775807 := by omega
      clear h
      go_enter Tryd.func42, Tryd.ntmps42
      go_wp2
      go_quiet (fail)
      go_wp2
      go_ret2
      exact ⟨rfl, later_drewN (Later.refl _) _⟩

set_option maxHeartbeats 1000000 in
theorem span_yes (b len cap : Nat) (y : Addr) (i n : Nat) (w : World) (hB : Box w b (.slice (some y) len cap)) (hc : len ≤ cap) (hm : cap ≤ maxLen) (h : i + n ≤ len) :
    Calls Tryd.prog 42 #[.pointer (some ⟨b, 0, none⟩), .int .i64 (i : Int), .int .i64 (n : Int)] w fun e w' => (∃ q : Addr, e = .returned (.tuple #[.slice (some q) n n, .nilIface]) ∧ (0 < n → q = y.add i)) ∧ w' = w := by
  have c0 := hB.cell
  unfold maxLen at hm
  have h0 : ¬ (i : Int) < 0 := by omega
  have h1 : ¬ (n : Int) < 0 := by omega
  have h2 : ¬ (len : Int) - (i : Int) < (n : Int) := by omega
  have r1 : -9223372036854775808 ≤ (len : Int) - (i : Int) := by omega
  have r2 : (len : Int) - (i : Int) ≤ 9223372036854775807 := by omega
  have r3 : (i : Int) + (n : Int) ≤ 9223372036854775807 := by omega
  have r4 : (i : Int) ≤ (i : Int) + (n : Int) := by omega
  have r5 : (i : Int) + (n : Int) ≤ (cap : Int) := by omega
  clear hB
  go_enter Tryd.func42, Tryd.ntmps42
  go_wp2
  all_goals
    go_ret2
    first | exact ⟨⟨_, rfl⟩, rfl⟩ | exact ⟨⟨_, rfl, fun _ => rfl⟩, rfl⟩

set_option maxHeartbeats 1000000 in
theorem load_no (x : Addr) (b len cap : Nat) (a : Option Addr) (i : Int) (w : World) (hG : Box w 0 (errAt x)) (hB : Box w b (.slice a len cap)) (hl : (len : Int) ≤ 9223372036854775807) (hi : InR i) (h : i < 0 ∨ (len : Int) ≤ i) :
    Calls Tryd.prog 29 #[.pointer (some ⟨b, 0, none⟩), .int .i64 i] w fun e w' => e = .returned (.tuple #[.int .i64 0, errAt x]) ∧ Later w w' := by
  have hne := neq_held x
  go_enter Tryd.func29, Tryd.ntmps29
  go_wp2_with (go_at_call 42; refine (span_no x b len cap a i 1 w hG hB hl hi (by omega)).mono ?_; rintro e w1 ⟨rfl, l1⟩)
  go_ret2
  exact ⟨rfl, l1⟩

set_option maxHeartbeats 1000000 in
theorem load_yes (b len cap g off o : Nat) (i : Nat) (z : Int) (w : World) (hB : Box w b (.slice (some ⟨g, off, none⟩) len cap)) (hc : len ≤ cap) (hm : cap ≤ maxLen) (h : i < len) (ho : o = off + i) (hz : w.cell? ⟨g, o, none⟩ = some (.int .i64 z)) :
    Calls Tryd.prog 29 #[.pointer (some ⟨b, 0, none⟩), .int .i64 (i : Int)] w fun e w' => e = .returned (.tuple #[.int .i64 z, .nilIface]) ∧ w' = w := by
  have hne := neq_nil
  have hS : Calls Tryd.prog 42 #[.pointer (some ⟨b, 0, none⟩), .int .i64 (i : Int), .int .i64 1] w fun e w' => e = .returned (.tuple #[.slice (some ⟨g, o, none⟩) 1 1, .nilIface]) ∧ w' = w := by
    refine (span_yes b len cap ⟨g, off, none⟩ i 1 w hB hc hm h).mono ?_
    rintro e w1 ⟨⟨q, rfl, hq⟩, rfl⟩
    rw [hq Nat.one_pos, ho, Addr.add_lit]
    exact ⟨rfl, rfl⟩
  clear hB ho hc h
  go_enter Tryd.func29, Tryd.ntmps29
  go_wp2_with (go_at_call 42; refine hS.mono ?_; rintro e w1 ⟨rfl, rfl⟩)
  go_ret2
  exact ⟨rfl, rfl⟩

set_option maxHeartbeats 1000000 in
theorem iload_any (x : Addr) : LoadG 10 (errAt x) := by
  intro v zs i w base hG h hi
  have W1 : Later w (w.alloc (.cells #[v] 25)) := later1 _ _
  have B1 := Box.new w v 25
  have G1 := hG.later W1
  have o1 := later_own h W1
  have hsame := is_same x
  have hnil := is_nil x
  rcases okAt_cases zs i with ⟨ho, e1, e2⟩ | ⟨h0, h1, e1, e2⟩
  · rw [e1, e2]
    obtain ⟨a, cap, rfl⟩ := own_slice h
    have hl : (zs.length : Int) ≤ 9223372036854775807 := by
      rcases own_cases h with ⟨_, h0, _⟩ | ⟨_, _, _, _, _, hm⟩
      · omega
      · unfold maxLen at hm; omega
    go_enter Tryd.func10, Tryd.ntmps10
    go_wp2_with fail
    refine (load_no x w.heap.size zs.length cap a i _ G1 B1 hl hi ho).mono ?_
    rintro e w1 ⟨rfl, l1⟩
    have g1 := (G1.later l1).cell
    go_wp2_with (go_at_call 28; refine (hsame _).mono ?_; rintro e w2 ⟨rfl, rfl⟩)
    go_ret2
    exact ⟨rfl, W1.trans l1⟩
  · rw [e1, e2]
    rcases h.2 with ⟨_, hz⟩ | ⟨g, cap, cur, rfl, _, _, hn, hm, _, _⟩
    · omega
    obtain ⟨k, rfl⟩ : ∃ k : Nat, i = (k : Int) := ⟨i.toNat, by omega⟩
    have hcw : (w.alloc (.cells #[.slice (some ⟨g, 0, none⟩) zs.length cap] 25)).cell? ⟨g, k, none⟩ = some (.int .i64 (zs.getD k 0)) := by
      rw [o1.cellAt _ (by omega), List.getElem?_map, List.getElem?_eq_getElem (by omega), List.getD_eq_getElem?_getD, List.getElem?_eq_getElem (by omega)]; rfl
    have hL := load_yes w.heap.size zs.length cap g 0 k k (zs.getD k 0) _ B1 hn hm (by omega) (by omega) hcw
    simp only [Int.toNat_natCast]
    have g1 := G1.cell
    generalize zs.getD k 0 = z at *
    clear o1 h hi h0 h1 e1 e2 hn hm B1 hcw
    go_enter Tryd.func10, Tryd.ntmps10
    go_wp2_with fail
    refine hL.mono ?_
    rintro e w1 ⟨rfl, rfl⟩
    go_wp2_with (go_at_call 28; refine (hnil _).mono ?_; rintro e w2 ⟨rfl, rfl⟩)
    go_ret2
    exact ⟨rfl, W1⟩

end Go.Proofs.YtfmfkfijlfeimaaDoor
