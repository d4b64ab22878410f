/- Images by the program: instructions, slots. -/
import Derived.Test.YtlfkjjnhlkaipaaG1
namespace Go.Proofs.Ytlfkjjnhlkaipaa
open Go.RowKit

/-- May an instruction be, among so many structs, codes, words of the frame and instructions? -/
def insB (ns nc fr ni : Int) (x : Is) : Bool := inB x.op 0 27 && (plB x.a 16 && (plB x.b 16 && (plB x.c 16 && inB x.n (bnd ns nc fr ni x.op).1 (bnd ns nc fr ni x.op).2)))
set_option maxRecDepth 20000 in
set_option maxHeartbeats 1000000 in
theorem insok_b (B g o sn cn ni : Nat) (sa ca ia : Option Addr) (sc cc ic : Nat) (fr : Int) (x : Is) (w : World) (hs : w.cell? ⟨B, 0, none⟩ = some (.slice sa sn sc)) (hc : w.cell? ⟨B, 1, none⟩ = some (.slice ca cn cc)) (hf : w.cell? ⟨g, o, none⟩ = some (.int .i64 fr)) (hi : w.cell? ⟨g, o + 2, none⟩ = some (.slice ia ni ic)) (hB : B < w.heap.size) (hg : g < w.heap.size)
    (hn1 : (sn : Int) ≤ 9223372036854775807) (hn2 : (cn : Int) ≤ 9223372036854775807) (hn3 : (ni : Int) ≤ 9223372036854775807) (hfr : 0 ≤ fr ∧ fr ≤ 1000) :
    Calls Try.prog 92 #[.pointer (some ⟨B, 0, none⟩), .pointer (some ⟨g, o, none⟩), .agg #[.int .i64 x.op, .int .i64 x.a, .int .i64 x.b, .int .i64 x.c, .int .i64 x.n]] w fun e w' => e = .returned (.bool (insB sn cn fr ni x)) ∧ Later w w' := by
  obtain ⟨op, a, b, c, n⟩ := x
  unfold insB
  dsimp only
  have hbd := fun w' (l : Later w w') => ibnd_any B g o sn cn ni sa ca ia sc cc ic fr op w' (by rw [Below.cell l (p := ⟨B, 0, none⟩) hB]; exact hs) (by rw [Below.cell l (p := ⟨B, 1, none⟩) hB]; exact hc) (by rw [Below.cell l (p := ⟨g, o, none⟩) hg]; exact hf) (by rw [Below.cell l (p := ⟨g, o + 2, none⟩) hg]; exact hi) hn1 hn2 hn3 hfr
  generalize bnd sn cn fr ni op = bb at *
  obtain ⟨lo, hi'⟩ := bb
  dsimp only at *
  have L1 := later1 w (.cells #[.int .i64 op, .int .i64 a, .int .i64 b, .int .i64 c, .int .i64 n] 60)
  cases e0 : inB op 0 27 with
  | false =>
    go_enter Try.func92, Try.ntmps92
    go_wp2_with (first | (go_at_call 22; refine (isin_b (by assumption) _).mono ?_; rintro e w1 ⟨rfl, hww⟩; obtain rfl := hww.symm) | (go_at_call 79; refine (place_b (by assumption) _).mono ?_; rintro e w1 ⟨rfl, hww⟩; obtain rfl := hww.symm))
    go_ret
    exact ⟨rfl, L1⟩
  | true =>
  cases e1 : plB a 16 with
  | false =>
    go_enter Try.func92, Try.ntmps92
    go_wp2_with (first | (go_at_call 22; refine (isin_b (by assumption) _).mono ?_; rintro e w1 ⟨rfl, hww⟩; obtain rfl := hww.symm) | (go_at_call 79; refine (place_b (by assumption) _).mono ?_; rintro e w1 ⟨rfl, hww⟩; obtain rfl := hww.symm))
    go_ret
    exact ⟨rfl, L1⟩
  | true =>
  cases e2 : plB b 16 with
  | false =>
    go_enter Try.func92, Try.ntmps92
    go_wp2_with (first | (go_at_call 22; refine (isin_b (by assumption) _).mono ?_; rintro e w1 ⟨rfl, hww⟩; obtain rfl := hww.symm) | (go_at_call 79; refine (place_b (by assumption) _).mono ?_; rintro e w1 ⟨rfl, hww⟩; obtain rfl := hww.symm))
    go_ret
    exact ⟨rfl, L1⟩
  | true =>
  cases e3 : plB c 16 with
  | false =>
    go_enter Try.func92, Try.ntmps92
    go_wp2_with (first | (go_at_call 22; refine (isin_b (by assumption) _).mono ?_; rintro e w1 ⟨rfl, hww⟩; obtain rfl := hww.symm) | (go_at_call 79; refine (place_b (by assumption) _).mono ?_; rintro e w1 ⟨rfl, hww⟩; obtain rfl := hww.symm))
    go_ret
    exact ⟨rfl, L1⟩
  | true =>
    cases e4 : inB n lo hi'
    all_goals
      go_enter Try.func92, Try.ntmps92
      go_wp2_with (first | (go_at_call 22; refine (isin_b (by assumption) _).mono ?_; rintro e w1 ⟨rfl, hww⟩; obtain rfl := hww.symm) | (go_at_call 79; refine (place_b (by assumption) _).mono ?_; rintro e w1 ⟨rfl, hww⟩; obtain rfl := hww.symm))
      refine (hbd _ (later1 _ _)).mono ?_
      rintro e w2 ⟨rfl, m, rfl⟩
      go_wp2_with (first | (go_at_call 22; refine (isin_b (by assumption) _).mono ?_; rintro e w1 ⟨rfl, hww⟩; obtain rfl := hww.symm) | (go_at_call 79; refine (place_b (by assumption) _).mono ?_; rintro e w1 ⟨rfl, hww⟩; obtain rfl := hww.symm))
      go_ret
      exact ⟨rfl, later_drewN L1 _⟩

/-- Slots ascend within the frame. -/
def slB (fr : Int) : Int → List Int → Bool
  | _, [] => true
  | lo, s :: r => inB s lo (fr - 1) && slB fr (s + 1) r
theorem inB_iff {n lo hi : Int} : inB n lo hi = true ↔ lo ≤ n ∧ n ≤ hi := by unfold inB; rw [Bool.and_eq_true, decide_eq_true_iff, decide_eq_true_iff]
set_option maxRecDepth 20000 in
set_option maxHeartbeats 1000000 in
theorem slots_b (v : Value) (l : List Int) (fr : Int) (w : World) (h : RdL w 1 v (In.dats l)) (hfr : 0 ≤ fr ∧ fr ≤ 1000) {b : Bool} (hb : slB fr 3 l = b) :
    Calls Try.prog 100 #[v, .int .i64 fr] w fun e w' => e = .returned (.bool b) ∧ w' = w := by
  obtain ⟨a, cap, rfl, hl⟩ := In.slice h
  have r1 : -9223372036854775808 ≤ fr - 1 := by omega
  have r2 : fr - 1 ≤ 9223372036854775807 := by omega
  go_enter Try.func100, Try.ntmps100
  go_wp2_with fail
  go_loopw [5, 10] (fun lo i wr => ∃ (k : Nat) (z : Int), lo = .int .i64 z ∧ i = .int .i64 (k : Int) ∧ k ≤ l.length ∧ 3 ≤ z ∧ slB fr z (l.drop k) = b ∧ wr = w) (fun _ i _ => l.length - (intOf i).toNat)
  case atStart => exact ⟨0, 3, rfl, rfl, Nat.zero_le _, Int.le_refl _, hb, rfl⟩
  case round =>
    obtain ⟨k, z, rfl, rfl, hk, hz, hS, rfl⟩ := hrel
    by_cases hlt : k < l.length
    · obtain ⟨g, off, rfl, hg, c0⟩ := In.elem h k hlt
      have i1 : (k : Int) < (l.length : Int) := by omega
      rw [List.drop_eq_getElem_cons hlt, slB] at hS
      generalize l[k] = y at *
      cases e0 : inB y z (fr - 1) with
      | false =>
        rw [e0, Bool.false_and] at hS
        subst hS
        clear h hb
        go_wp2_with (go_at_call 22; refine (isin_b (by assumption) _).mono ?_; rintro e w1 ⟨rfl, hww⟩; obtain rfl := hww.symm)
        go_ret
        exact ⟨rfl, rfl⟩
      | true =>
        rw [e0, Bool.true_and] at hS
        have q := inB_iff.1 e0
        have r3 : -9223372036854775808 ≤ y + 1 := by omega
        have r4 : y + 1 ≤ 9223372036854775807 := by omega
        have HS : Hid (slB fr (y + 1) (l.drop (k + 1)) = b) := hS
        clear h hb hS
        go_wp2_with (go_at_call 22; refine (isin_b (by assumption) _).mono ?_; rintro e w1 ⟨rfl, hww⟩; obtain rfl := hww.symm)
        go_roundw
        case rel => exact ⟨k + 1, y + 1, by go_num, by go_num, by omega, by omega, HS.out, trivial⟩
        case measure => simp [intOf]; omega
    · have i1 : ¬ (k : Int) < (l.length : Int) := by omega
      have i2 : decide ((k : Int) < (l.length : Int)) = false := decide_eq_false i1
      rw [List.drop_eq_nil_of_le (by omega), slB] at hS
      subst hS
      clear h hb
      go_wp2_with fail
      go_ret
      exact ⟨rfl, rfl⟩
end Go.Proofs.Ytlfkjjnhlkaipaa
