/- The law FnSetups. -/
import Derived.Test.YtlfkjjnhlkaipaaU11
namespace Go.Proofs.Ytlfkjjnhlkaipaa
open Go.RowKit

set_option maxHeartbeats 1000000 in
theorem drawsetup_any {a : Option Addr} {len : Nat} (cap : Nat) {w : World} (hb : Bytes w a len) :
    Calls Try.prog 6 #[.slice a len cap] w fun e w' => ∃ (zh zs zf : Int) (a1 a2 : Option Addr) (n1 p1 n2 p2 : Nat), e = .returned (.agg #[.int .i64 zh, .int .i64 zs, .slice a1 n1 p1, .int .i64 zf, .slice a2 n2 p2]) ∧ n1 ≤ 101 ∧ n2 ≤ 2001 ∧ Later w w' := by
  have VR : S5 (w.alloc (.cells #[.int .i64 0, .int .i64 0, .slice none 0 0, .int .i64 0, .slice none 0 0] 25)) w.heap.size (.int .i64 0) (.int .i64 0) (.slice none 0 0) (.int .i64 0) (.slice none 0 0) := ⟨by simp, by simp, by simp, by simp, by simp, by simp, by simp, by simp, by simp, by simp, by simp⟩
  have L0 : Later w (w.alloc (.cells #[.int .i64 0, .int .i64 0, .slice none 0 0, .int .i64 0, .slice none 0 0] 25)) := later1 _ _
  go_enter Try.func6, Try.ntmps6
  go_wp2_with fail
  refine (new_at cap (hb.later L0)).mono ?_
  rintro e w1 ⟨K, rfl, hat, hlat, hK⟩
  go_wp2_with fail
  refine (lsetup_any hat).mono ?_
  rintro e w2 ⟨zh, zs, zf, a1, a2, n1, p1, n2, p2, rfl, h1, h2, hat2⟩
  have L := hat2.done hlat hK
  have VQ := VR.later L
  have BR := S5.put VQ (.int .i64 zh) (.int .i64 zs) (.slice a1 n1 p1) (.int .i64 zf) (.slice a2 n2 p2)
  have t0 := BR.k0
  have t1 := BR.k1
  have t2 := BR.k2
  have t3 := BR.k3
  have t4 := BR.k4
  have LL : Later w _ := (((((L0.trans L).setAt (Nat.le_refl _) 0 (.int .i64 zh)).setAt (Nat.le_refl _) 1 (.int .i64 zs)).setAt (Nat.le_refl _) 2 (.slice a1 n1 p1)).setAt (Nat.le_refl _) 3 (.int .i64 zf)).setAt (Nat.le_refl _) 4 (.slice a2 n2 p2)
  obtain ⟨lq, r0, g0, r1, g1, r2, g2, r3, g3, r4, g4⟩ := VQ
  clear BR
  go_wp2_with fail
  exact bodyPost_ret (v := .agg #[.int .i64 zh, .int .i64 zs, .slice a1 n1 p1, .int .i64 zf, .slice a2 n2 p2]) (by simp [results, Try.results6, go_sem, t0, t1, t2, t3, t4]) rfl ⟨_, _, _, _, _, _, _, _, _, rfl, h1, h2, LL⟩

theorem build_s2 (w : World) : (Instr.build 25 #[(0, .int .i64 8), (1, .int .i64 16)]).run Try.prog w = .ok (.agg #[.int .i64 8, .int .i64 16, .slice none 0 0, .int .i64 0, .slice none 0 0]) w := run_build w 25 _ _ (by kernel_rfl)
set_option maxRecDepth 20000 in
set_option maxHeartbeats 4000000 in
theorem lawsetups_any (a : Option Addr) (len cap : Nat) (w : World) (hb : Bytes w a len) :
    Calls Try.prog 3 #[.slice a len cap] w fun e w' => e = .returned (.bool true) ∧ Later w w' := by
  have hbl := build_s2
  have hS2 : seP 8 16 0 0 0 = true := by decide
  go_enter Try.func3, Try.ntmps3
  go_wp2_with fail
  refine (drawsetup_any cap hb).mono ?_
  rintro e w1 ⟨zh, zs, zf, a1, a2, n1, p1, n2, p2, rfl, h1, h2, l1⟩
  clear hb
  by_cases q0 : 8 ≤ zh
  rotate_left
  · have hq : seP zh zs n1 zf n2 = false := by unfold seP inB mrB; rw [decide_eq_false q0]; simp
    have L2 : Later w _ := l1.trans (later1 _ (.cells #[.int .i64 zh, .int .i64 zs, .slice a1 n1 p1, .int .i64 zf, .slice a2 n2 p2] 25))
    go_wp2_with fail
    refine (isetup_p _ hq).mono ?_
    rintro e w2 ⟨rfl, l2⟩
    go_wp2_with fail
    refine (isetup_p _ hS2).mono ?_
    rintro e w3 ⟨rfl, l3⟩
    go_wp2_with fail
    go_ret
    exact ⟨by first | rfl | (simp; done) | (simp; omega), (L2.trans l2).trans l3⟩
  by_cases q1 : zh ≤ 4000
  rotate_left
  · have hq : seP zh zs n1 zf n2 = false := by unfold seP inB mrB; rw [decide_eq_false q1]; simp
    have L2 : Later w _ := l1.trans (later1 _ (.cells #[.int .i64 zh, .int .i64 zs, .slice a1 n1 p1, .int .i64 zf, .slice a2 n2 p2] 25))
    go_wp2_with fail
    refine (isetup_p _ hq).mono ?_
    rintro e w2 ⟨rfl, l2⟩
    go_wp2_with fail
    refine (isetup_p _ hS2).mono ?_
    rintro e w3 ⟨rfl, l3⟩
    go_wp2_with fail
    go_ret
    exact ⟨by first | rfl | (simp; done) | (simp; omega), (L2.trans l2).trans l3⟩
  by_cases q2 : 16 ≤ zs
  rotate_left
  · have hq : seP zh zs n1 zf n2 = false := by unfold seP inB mrB; rw [decide_eq_false q2]; simp
    have L2 : Later w _ := l1.trans (later1 _ (.cells #[.int .i64 zh, .int .i64 zs, .slice a1 n1 p1, .int .i64 zf, .slice a2 n2 p2] 25))
    go_wp2_with fail
    refine (isetup_p _ hq).mono ?_
    rintro e w2 ⟨rfl, l2⟩
    go_wp2_with fail
    refine (isetup_p _ hS2).mono ?_
    rintro e w3 ⟨rfl, l3⟩
    go_wp2_with fail
    go_ret
    exact ⟨by first | rfl | (simp; done) | (simp; omega), (L2.trans l2).trans l3⟩
  by_cases q3 : zs ≤ 2000
  rotate_left
  · have hq : seP zh zs n1 zf n2 = false := by unfold seP inB mrB; rw [decide_eq_false q3]; simp
    have L2 : Later w _ := l1.trans (later1 _ (.cells #[.int .i64 zh, .int .i64 zs, .slice a1 n1 p1, .int .i64 zf, .slice a2 n2 p2] 25))
    go_wp2_with fail
    refine (isetup_p _ hq).mono ?_
    rintro e w2 ⟨rfl, l2⟩
    go_wp2_with fail
    refine (isetup_p _ hS2).mono ?_
    rintro e w3 ⟨rfl, l3⟩
    go_wp2_with fail
    go_ret
    exact ⟨by first | rfl | (simp; done) | (simp; omega), (L2.trans l2).trans l3⟩
  by_cases q4 : (n1 : Int) ≤ 100
  rotate_left
  · have hq : seP zh zs n1 zf n2 = false := by unfold seP inB mrB; rw [decide_eq_false q4]; simp
    have L2 : Later w _ := l1.trans (later1 _ (.cells #[.int .i64 zh, .int .i64 zs, .slice a1 n1 p1, .int .i64 zf, .slice a2 n2 p2] 25))
    go_wp2_with fail
    refine (isetup_p _ hq).mono ?_
    rintro e w2 ⟨rfl, l2⟩
    go_wp2_with fail
    refine (isetup_p _ hS2).mono ?_
    rintro e w3 ⟨rfl, l3⟩
    go_wp2_with fail
    go_ret
    exact ⟨by first | rfl | (simp; done) | (simp; omega), (L2.trans l2).trans l3⟩
  by_cases q5 : 0 ≤ zf
  rotate_left
  · have hq : seP zh zs n1 zf n2 = false := by unfold seP inB mrB; rw [decide_eq_false q5]; simp
    have L2 : Later w _ := l1.trans (later1 _ (.cells #[.int .i64 zh, .int .i64 zs, .slice a1 n1 p1, .int .i64 zf, .slice a2 n2 p2] 25))
    go_wp2_with fail
    refine (isetup_p _ hq).mono ?_
    rintro e w2 ⟨rfl, l2⟩
    go_wp2_with fail
    refine (isetup_p _ hS2).mono ?_
    rintro e w3 ⟨rfl, l3⟩
    go_wp2_with fail
    go_ret
    exact ⟨by first | rfl | (simp; done) | (simp; omega), (L2.trans l2).trans l3⟩
  by_cases q6 : zf ≤ 200000
  rotate_left
  · have hq : seP zh zs n1 zf n2 = false := by unfold seP inB mrB; rw [decide_eq_false q6]; simp
    have L2 : Later w _ := l1.trans (later1 _ (.cells #[.int .i64 zh, .int .i64 zs, .slice a1 n1 p1, .int .i64 zf, .slice a2 n2 p2] 25))
    go_wp2_with fail
    refine (isetup_p _ hq).mono ?_
    rintro e w2 ⟨rfl, l2⟩
    go_wp2_with fail
    refine (isetup_p _ hS2).mono ?_
    rintro e w3 ⟨rfl, l3⟩
    go_wp2_with fail
    go_ret
    exact ⟨by first | rfl | (simp; done) | (simp; omega), (L2.trans l2).trans l3⟩
  by_cases q7 : (n2 : Int) ≤ 2000
  rotate_left
  · have hq : seP zh zs n1 zf n2 = false := by unfold seP inB mrB; rw [decide_eq_false q7]; simp
    have L2 : Later w _ := l1.trans (later1 _ (.cells #[.int .i64 zh, .int .i64 zs, .slice a1 n1 p1, .int .i64 zf, .slice a2 n2 p2] 25))
    go_wp2_with fail
    refine (isetup_p _ hq).mono ?_
    rintro e w2 ⟨rfl, l2⟩
    go_wp2_with fail
    refine (isetup_p _ hS2).mono ?_
    rintro e w3 ⟨rfl, l3⟩
    go_wp2_with fail
    go_ret
    exact ⟨by first | rfl | (simp; done) | (simp; omega), (L2.trans l2).trans l3⟩
  have hq : seP zh zs n1 zf n2 = true := by unfold seP inB mrB; rw [decide_eq_true q0, decide_eq_true q1, decide_eq_true q2, decide_eq_true q3, decide_eq_true q4, decide_eq_true q5, decide_eq_true q6, decide_eq_true q7]; rfl
  have L2 : Later w _ := l1.trans (later1 _ (.cells #[.int .i64 zh, .int .i64 zs, .slice a1 n1 p1, .int .i64 zf, .slice a2 n2 p2] 25))
  go_wp2_with fail
  refine (isetup_p _ hq).mono ?_
  rintro e w2 ⟨rfl, l2⟩
  go_wp2_with fail
  refine (isetup_p _ hS2).mono ?_
  rintro e w3 ⟨rfl, l3⟩
  go_wp2_with fail
  go_ret
  exact ⟨by first | rfl | (simp; done) | (simp; omega), (L2.trans l2).trans l3⟩
end Go.Proofs.Ytlfkjjnhlkaipaa
