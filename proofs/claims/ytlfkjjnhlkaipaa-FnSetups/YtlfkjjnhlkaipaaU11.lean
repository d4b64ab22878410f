/- Setups that are drawn, whole; the law FnSetups. -/
import Derived.Test.YtlfkjjnhlkaipaaU10
namespace Go.Proofs.Ytlfkjjnhlkaipaa
open Go.RowKit

def seP (zh zs : Int) (ni : Nat) (zf : Int) (no : Nat) : Bool := inB zh 8 4000 && (inB zs 16 2000 && (mrB ni zf && decide ((no : Int) ≤ 2000)))
set_option maxHeartbeats 1000000 in
theorem isetup_p {zh zs zf : Int} {ni no p0 p1 : Nat} {a0 a1 : Option Addr} (w : World) {b : Bool} (hb : seP zh zs ni zf no = b) :
    Calls Try.prog 7 #[.agg #[.int .i64 zh, .int .i64 zs, .slice a0 ni p0, .int .i64 zf, .slice a1 no p1]] w fun e w' => e = .returned (.bool b) ∧ Later w w' := by
  subst hb
  unfold seP
  cases e1 : inB zh 8 4000 with
  | false =>
    rw [Bool.false_and]
    go_enter Try.func7, Try.ntmps7
    go_wp2_with fail
    refine (isin_b e1 _).mono ?_
    rintro e w1 ⟨rfl, rfl⟩
    go_wp2_with fail
    go_ret
    exact ⟨rfl, later1 _ _⟩
  | true =>
    rw [Bool.true_and]
    cases e2 : inB zs 16 2000 with
    | false =>
      rw [Bool.false_and]
      go_enter Try.func7, Try.ntmps7
      go_wp2_with fail
      refine (isin_b e1 _).mono ?_
      rintro e w1 ⟨rfl, rfl⟩
      go_wp2_with fail
      refine (isin_b e2 _).mono ?_
      rintro e w1 ⟨rfl, rfl⟩
      go_wp2_with fail
      go_ret
      exact ⟨rfl, later1 _ _⟩
    | true =>
      rw [Bool.true_and]
      cases e3 : mrB ni zf with
      | false =>
        rw [Bool.false_and]
        go_enter Try.func7, Try.ntmps7
        go_wp2_with fail
        refine (isin_b e1 _).mono ?_
        rintro e w1 ⟨rfl, rfl⟩
        go_wp2_with fail
        refine (isin_b e2 _).mono ?_
        rintro e w1 ⟨rfl, rfl⟩
        go_wp2_with fail
        refine (mayrun_b e3 _).mono ?_
        rintro e w1 ⟨rfl, rfl⟩
        go_wp2_with fail
        go_ret
        exact ⟨rfl, later1 _ _⟩
      | true =>
        rw [Bool.true_and]
        go_enter Try.func7, Try.ntmps7
        go_wp2_with fail
        refine (isin_b e1 _).mono ?_
        rintro e w1 ⟨rfl, rfl⟩
        go_wp2_with fail
        refine (isin_b e2 _).mono ?_
        rintro e w1 ⟨rfl, rfl⟩
        go_wp2_with fail
        refine (mayrun_b e3 _).mono ?_
        rintro e w1 ⟨rfl, rfl⟩
        go_wp2_with fail
        go_ret
        exact ⟨rfl, later1 _ _⟩
theorem S5.set2 {w : World} {b : Nat} {c0 c1 c2 c3 c4 : Value} (h : S5 w b c0 c1 c2 c3 c4) (v : Value) : S5 (w.setCell ⟨b, 2, none⟩ v) b c0 c1 v c3 c4 :=
  ⟨by simpa using h.lt, (set_off w b v (by decide)).trans h.k0, by rw [World.frozen?_setCell]; exact h.f0, (set_off w b v (by decide)).trans h.k1, by rw [World.frozen?_setCell]; exact h.f1, set_same h.k2, by rw [World.frozen?_setCell]; exact h.f2, (set_off w b v (by decide)).trans h.k3, by rw [World.frozen?_setCell]; exact h.f3, (set_off w b v (by decide)).trans h.k4, by rw [World.frozen?_setCell]; exact h.f4⟩
theorem S5.set3 {w : World} {b : Nat} {c0 c1 c2 c3 c4 : Value} (h : S5 w b c0 c1 c2 c3 c4) (v : Value) : S5 (w.setCell ⟨b, 3, none⟩ v) b c0 c1 c2 v c4 :=
  ⟨by simpa using h.lt, (set_off w b v (by decide)).trans h.k0, by rw [World.frozen?_setCell]; exact h.f0, (set_off w b v (by decide)).trans h.k1, by rw [World.frozen?_setCell]; exact h.f1, (set_off w b v (by decide)).trans h.k2, by rw [World.frozen?_setCell]; exact h.f2, set_same h.k3, by rw [World.frozen?_setCell]; exact h.f3, (set_off w b v (by decide)).trans h.k4, by rw [World.frozen?_setCell]; exact h.f4⟩
theorem S5.put {w : World} {b : Nat} {c0 c1 c2 c3 c4 : Value} (h : S5 w b c0 c1 c2 c3 c4) (v0 v1 v2 v3 v4 : Value) : S5 (((((w.setCell ⟨b, 0, none⟩ v0).setCell ⟨b, 1, none⟩ v1).setCell ⟨b, 2, none⟩ v2).setCell ⟨b, 3, none⟩ v3).setCell ⟨b, 4, none⟩ v4) b v0 v1 v2 v3 v4 := ((((h.set0 v0).set1 v1).set2 v2).set3 v3).set4 v4
theorem build_se (zh zs zf : Int) (a1 : Option Addr) (n1 p1 : Nat) (w : World) : (Instr.build 25 #[(0, .int .i64 zh), (1, .int .i64 zs), (2, .slice a1 n1 p1), (3, .int .i64 zf)]).run Try.prog w = .ok (.agg #[.int .i64 zh, .int .i64 zs, .slice a1 n1 p1, .int .i64 zf, .slice none 0 0]) w := run_build w 25 _ _ (by kernel_rfl)
set_option maxRecDepth 20000 in
set_option maxHeartbeats 2000000 in
theorem lsetup_any {B K : Nat} {a : Option Addr} {len cap : Nat} {w0 w : World} (h : At B K a len cap w0 w) :
    Calls Try.prog 20 #[.pointer (some ⟨K, 0, none⟩)] w fun e w' => ∃ (zh zs zf : Int) (a1 a2 : Option Addr) (n1 p1 n2 p2 : Nat), e = .returned (.agg #[.int .i64 zh, .int .i64 zs, .slice a1 n1 p1, .int .i64 zf, .slice a2 n2 p2]) ∧ n1 ≤ 101 ∧ n2 ≤ 2001 ∧ At B K a len cap w0 w' := by
  obtain ⟨i0, hi, hz0, hz1, hz2⟩ := info_parts Try.info3
  have hb := build_se
  have hK := h.cur.hK
  have hw0 := h.only.size
  have hA := h.alloc (.cells #[.int .i64 0, .int .i64 0, .slice none 0 0, .int .i64 0, .slice none 0 0] 25)
  have VR : S5 (w.alloc (.cells #[.int .i64 0, .int .i64 0, .slice none 0 0, .int .i64 0, .slice none 0 0] 25)) w.heap.size (.int .i64 0) (.int .i64 0) (.slice none 0 0) (.int .i64 0) (.slice none 0 0) := ⟨by simp, by simp, by simp, by simp, by simp, by simp, by simp, by simp, by simp, by simp, by simp⟩
  have hsz : (w.alloc (.cells #[.int .i64 0, .int .i64 0, .slice none 0 0, .int .i64 0, .slice none 0 0] 25)).heap.size = w.heap.size + 1 := by simp
  go_enter Try.func20, Try.ntmps20
  go_wp2_with fail
  refine (largs_any (At.start hA.cur)).mono ?_
  rintro e w1 ⟨a1, n1, p1, ff, rfl, hn1, f0, f1, hA1⟩
  replace VR := VR.grown hA1.only.grown (by omega)
  have hs1 := hA1.only.size
  rw [hsz] at hs1
  replace hA := hA.origin hA1
  clear hA1 hsz
  go_wp2_with fail
  refine (pick_in (At.start hA.cur) (-9223372036854775808) 9223372036854775807 _ 5 rfl (by decide) (by decide) (by decide +kernel)).mono ?_
  rintro e w2 ⟨zh, rfl, _, _, hA2⟩
  replace VR := VR.grown hA2.only.grown (by omega)
  have hs2 := hA2.only.size
  replace hA := hA.origin hA2
  clear hA2
  go_wp2_with fail
  refine (pick_in (At.start hA.cur) (-9223372036854775808) 9223372036854775807 _ 4 rfl (by decide) (by decide) (by decide +kernel)).mono ?_
  rintro e w3 ⟨zs, rfl, _, _, hA3⟩
  replace VR := VR.grown hA3.only.grown (by omega)
  have hs3 := hA3.only.size
  replace hA := hA.origin hA3
  clear hA3
  go_wp2_with fail
  have VS : S5 (w3.alloc (.cells #[.int .i64 zh, .int .i64 zs, .slice a1 n1 p1, .int .i64 (4 * ff), .slice none 0 0] 25)) w3.heap.size (.int .i64 zh) (.int .i64 zs) (.slice a1 n1 p1) (.int .i64 (4 * ff)) (.slice none 0 0) := ⟨by simp, by simp, by simp, by simp, by simp, by simp, by simp, by simp, by simp, by simp, by simp⟩
  have VQ : S5 (w3.alloc (.cells #[.int .i64 zh, .int .i64 zs, .slice a1 n1 p1, .int .i64 (4 * ff), .slice none 0 0] 25)) w.heap.size (.int .i64 0) (.int .i64 0) (.slice none 0 0) (.int .i64 0) (.slice none 0 0) := VR.later (later1 _ _)
  replace hA := hA.alloc (.cells #[.int .i64 zh, .int .i64 zs, .slice a1 n1 p1, .int .i64 (4 * ff), .slice none 0 0] 25)
  clear VR
  refine (below_at (At.start hA.cur) 40 (by decide) (by decide)).mono ?_
  rintro e w4 ⟨nn, rfl, m0, m1, hA4⟩
  replace VQ := VQ.grown hA4.only.grown (by omega)
  have hK3 : K ≠ w3.heap.size := by have := VS.lt; omega
  replace VS := VS.grown hA4.only.grown (fun e => hK3 e.symm)
  have hs4 := hA4.only.size
  simp at hs4
  replace hA := hA.origin hA4
  clear hA4
  obtain ⟨S, hS⟩ : ∃ S, S = w3.heap.size := ⟨_, rfl⟩
  rw [← hS] at hK3 VS hs4 ⊢
  obtain ⟨zf, hzf⟩ : ∃ zf : Int, zf = 4 * ff := ⟨_, rfl⟩
  rw [← hzf] at VS ⊢
  have hRS : w.heap.size < S := by omega
  clear hs1 hs2 hs3 hS hzf f0 f1
  have c4 := VS.k4
  have l4 := VS.lt
  have q4 := VQ.lt
  go_wp2_with fail
  go_loopw [7] (fun ii wr => ∃ (k : Nat) (zl : List Value) (v : Value), ii = .int .i64 (k : Int) ∧ (k : Int) ≤ nn ∧ S5 wr w.heap.size (.int .i64 0) (.int .i64 0) (.slice none 0 0) (.int .i64 0) (.slice none 0 0) ∧ S5 wr S (.int .i64 zh) (.int .i64 zs) (.slice a1 n1 p1) (.int .i64 zf) v ∧ wr.ownsRow (S + 1) 3 1 v k zl ∧ At B K a len cap w0 wr) (fun ii _ => (nn - intOf ii).toNat)
  case atStart => exact ⟨0, [], _, rfl, m0, VQ, VS, World.ownsRow_nil _ _ _ _, hA⟩
  case round =>
    obtain ⟨k, zl, v, rfl, hk, VQ, VS, ho, hA⟩ := hrel
    obtain ⟨av, pv, rfl⟩ := own_slicei ho
    have c4 := VS.k4
    have l4 := VS.lt
    by_cases hlt : (k : Int) < nn
    · go_wp2_with fail
      have hKo : (Value.slice av k pv).ownBlock ≠ some K := fun e => by have := own_lti ho K e; omega
      have hoD := later_owni ho (Later.drew _)
      have hAD := hA.later (Later.drew _)
      have VQD := VQ.later (Later.drew _)
      have VSD := VS.later (Later.drew _)
      go_region_law (first | (go_simp; go_at_call 41; refine (below_at (At.start hAD.cur) 4 (by decide) (by decide)).mono ?_; rintro e w5 ⟨z, rfl, _, _, hA5⟩; have VQ' := VQD.grown hA5.only.grown (by omega); have VS' := VSD.grown hA5.only.grown (fun e => hK3 e.symm); have ho' := own_grown1 hoD hA5.only.grown hKo; have hA' := hAD.origin hA5; have hs5 := hA5.only.size; have c4' := VS'.k4; have l4' := VS'.lt; clear hA5) | (refine step_append_own rfl _ _ 23 rfl (S + 1) 3 i0 (.int .i64 0) 1 8 Try.underlying23 hi hz0 hz1 hz2 rfl (by decide) _ _ _ rfl (ho'.alloc _) ⟨w5.heap.size, 0, none⟩ 1 1 [.int .i64 z] rfl rfl (new_onei _ _) (by simp [Value.oneCell']) (by unfold maxLen; omega) (by omega) (by simp at hs5 ⊢; omega) ?_; intro v3 w6 ho3 hg3; obtain ⟨a3, p3, rfl⟩ := own_slicei ho3; have YQ := (VQ'.later (later1 _ _)).grown' hg3 (fun g hg => by have := own_lti ho' g hg; omega); have YS := (VS'.later (later1 _ _)).grown' hg3 (fun g hg => by have := own_lti ho' g hg; omega); have YA := at_grown (hA'.alloc _) hg3 (fun g hg => by have := own_lti ho' g hg; omega); have d4 := YS.k4; have e4 := YS.f4; have m4 := YS.lt))
      all_goals
        have ZS := YS.set4 (.slice a3 (k + 1) p3)
        have ZQ := YQ.far (c := S) (o := 4) (.slice a3 (k + 1) p3) (by omega)
        have Zo := ownsRow_setCell_below (a := ⟨S, 4, none⟩) ho3 (by simp) (.slice a3 (k + 1) p3)
        have ZA := at_far (c := S) (o := 4) YA (.slice a3 (k + 1) p3) (by omega) (by omega)
        go_wp2_with fail
        go_roundw
        case rel => exact ⟨k + 1, _, _, by go_num, by omega, ZQ, ZS, Zo, ZA⟩
        case measure => simp [intOf]; omega
    · have hlt' : decide ((k : Int) < nn) = false := by simp; omega
      have hk40 : k ≤ 2001 := by omega
      clear ho
      go_wp2_with fail
      refine (once_at (At.start hA.cur) 25 (by decide) (by decide)).mono ?_
      rintro e w5 ⟨b5, rfl, hA5⟩
      replace VQ := VQ.grown hA5.only.grown (by omega)
      replace VS := VS.grown hA5.only.grown (fun e => hK3 e.symm)
      replace hA := hA.origin hA5
      clear hA5 c4 l4
      cases b5
      · skip
        have BR := S5.put VQ (.int .i64 zh) (.int .i64 zs) (.slice a1 n1 p1) (.int .i64 zf) (.slice av k pv)
        have AR := at_far (c := w.heap.size) (o := 4) (at_far (c := w.heap.size) (o := 3) (at_far (c := w.heap.size) (o := 2) (at_far (c := w.heap.size) (o := 1) (at_far (c := w.heap.size) (o := 0) hA (.int .i64 zh) hK hw0) (.int .i64 zs) hK hw0) (.slice a1 n1 p1) hK hw0) (.int .i64 zf) hK hw0) (.slice av k pv) hK hw0
        have t0 := BR.k0
        have t1 := BR.k1
        have t2 := BR.k2
        have t3 := BR.k3
        have t4 := BR.k4
        obtain ⟨l, k0, f0, k1, f1, k2, f2, k3, f3, k4, f4⟩ := VS
        obtain ⟨lq, r0, g0, r1, g1, r2, g2, r3, g3, r4, g4⟩ := VQ
        clear BR
        go_wp2_with fail
        exact bodyPost_ret (v := .agg #[.int .i64 zh, .int .i64 zs, .slice a1 n1 p1, .int .i64 zf, .slice av k pv]) (by simp [results, Try.results20, go_sem, t0, t1, t2, t3, t4]) rfl ⟨_, _, _, _, _, _, _, _, _, rfl, hn1, hk40, AR⟩
      · go_wp2_with fail
        refine (below_at (At.start hA.cur) 3 (by decide) (by decide)).mono ?_
        rintro e w6 ⟨x, rfl, x0, x1, hA6⟩
        replace VQ := VQ.grown hA6.only.grown (by omega)
        replace VS := VS.grown hA6.only.grown (fun e => hK3 e.symm)
        replace hA := hA.origin hA6
        clear hA6
        rcases (show x = 0 ∨ x = 1 ∨ x = 2 by omega) with rfl | rfl | rfl
        · go_wp2_with fail
          refine (pick_in (At.start hA.cur) (-9223372036854775808) 9223372036854775807 _ 3 rfl (by decide) (by decide) (by decide +kernel)).mono ?_
          rintro e w7 ⟨zn, rfl, _, _, hA7⟩
          replace VQ := VQ.grown hA7.only.grown (by omega)
          replace VS := VS.grown hA7.only.grown (fun e => hK3 e.symm)
          replace hA := hA.origin hA7
          clear hA7
          have y0 := VS.k0
          have yf := VS.f0
          have yl := VS.lt
          have VQ2 := VQ.far (c := S) (o := 0) (.int .i64 zn) (by omega)
          have VS2 := VS.set0 (.int .i64 zn)
          have hA2 := at_far (c := S) (o := 0) hA (.int .i64 zn) (by omega) (by omega)
          clear VQ VS hA
          have BR := S5.put VQ2 (.int .i64 zn) (.int .i64 zs) (.slice a1 n1 p1) (.int .i64 zf) (.slice av k pv)
          have AR := at_far (c := w.heap.size) (o := 4) (at_far (c := w.heap.size) (o := 3) (at_far (c := w.heap.size) (o := 2) (at_far (c := w.heap.size) (o := 1) (at_far (c := w.heap.size) (o := 0) hA2 (.int .i64 zn) hK hw0) (.int .i64 zs) hK hw0) (.slice a1 n1 p1) hK hw0) (.int .i64 zf) hK hw0) (.slice av k pv) hK hw0
          have t0 := BR.k0
          have t1 := BR.k1
          have t2 := BR.k2
          have t3 := BR.k3
          have t4 := BR.k4
          obtain ⟨l, k0, f0, k1, f1, k2, f2, k3, f3, k4, f4⟩ := VS2
          obtain ⟨lq, r0, g0, r1, g1, r2, g2, r3, g3, r4, g4⟩ := VQ2
          clear BR
          go_wp2_with fail
          exact bodyPost_ret (v := .agg #[.int .i64 zn, .int .i64 zs, .slice a1 n1 p1, .int .i64 zf, .slice av k pv]) (by simp [results, Try.results20, go_sem, t0, t1, t2, t3, t4]) rfl ⟨_, _, _, _, _, _, _, _, _, rfl, hn1, hk40, AR⟩
        · go_wp2_with fail
          refine (pick_in (At.start hA.cur) (-9223372036854775808) 9223372036854775807 _ 2 rfl (by decide) (by decide) (by decide +kernel)).mono ?_
          rintro e w7 ⟨zn, rfl, _, _, hA7⟩
          replace VQ := VQ.grown hA7.only.grown (by omega)
          replace VS := VS.grown hA7.only.grown (fun e => hK3 e.symm)
          replace hA := hA.origin hA7
          clear hA7
          have y1 := VS.k1
          have yf := VS.f1
          have yl := VS.lt
          have VQ2 := VQ.far (c := S) (o := 1) (.int .i64 zn) (by omega)
          have VS2 := VS.set1 (.int .i64 zn)
          have hA2 := at_far (c := S) (o := 1) hA (.int .i64 zn) (by omega) (by omega)
          clear VQ VS hA
          have BR := S5.put VQ2 (.int .i64 zh) (.int .i64 zn) (.slice a1 n1 p1) (.int .i64 zf) (.slice av k pv)
          have AR := at_far (c := w.heap.size) (o := 4) (at_far (c := w.heap.size) (o := 3) (at_far (c := w.heap.size) (o := 2) (at_far (c := w.heap.size) (o := 1) (at_far (c := w.heap.size) (o := 0) hA2 (.int .i64 zh) hK hw0) (.int .i64 zn) hK hw0) (.slice a1 n1 p1) hK hw0) (.int .i64 zf) hK hw0) (.slice av k pv) hK hw0
          have t0 := BR.k0
          have t1 := BR.k1
          have t2 := BR.k2
          have t3 := BR.k3
          have t4 := BR.k4
          obtain ⟨l, k0, f0, k1, f1, k2, f2, k3, f3, k4, f4⟩ := VS2
          obtain ⟨lq, r0, g0, r1, g1, r2, g2, r3, g3, r4, g4⟩ := VQ2
          clear BR
          go_wp2_with fail
          exact bodyPost_ret (v := .agg #[.int .i64 zh, .int .i64 zn, .slice a1 n1 p1, .int .i64 zf, .slice av k pv]) (by simp [results, Try.results20, go_sem, t0, t1, t2, t3, t4]) rfl ⟨_, _, _, _, _, _, _, _, _, rfl, hn1, hk40, AR⟩
        · go_wp2_with (at_make; refine wpList_make_full _ rfl _ _ 23 rfl w6.heap.size 3 i0 (.int .i64 0) 1 Try.underlying23 hi hz0 hz1 .i64 .i64 _ _ 2001 rfl rfl rfl rfl (by rw [hz2]; omega) (by unfold maxLen; omega) (Nat.le_refl _) ?_; intro w7 hown hgr; have l7 : Later w6 w7 := (Below.refl _ _).grown hgr (Nat.le_refl _) (fun k h => by cases h); have VQ1 := VQ.later l7; have VS1 := VS.later l7; have hA1 := hA.later l7; have y4 := VS1.k4; have yf := VS1.f4; have yl := VS1.lt; have VQ2 := VQ1.far (c := S) (o := 4) (.slice (some ⟨w6.heap.size, 0, none⟩) 2001 2001) (by omega); have VS2 := VS1.set4 (.slice (some ⟨w6.heap.size, 0, none⟩) 2001 2001); have hA2 := at_far (c := S) (o := 4) hA1 (.slice (some ⟨w6.heap.size, 0, none⟩) 2001 2001) (by omega) (by omega); clear VQ VS hA hown hgr VQ1 VS1 hA1; have BR := S5.put VQ2 (.int .i64 zh) (.int .i64 zs) (.slice a1 n1 p1) (.int .i64 zf) (.slice (some ⟨w6.heap.size, 0, none⟩) 2001 2001); have AR := at_far (c := w.heap.size) (o := 4) (at_far (c := w.heap.size) (o := 3) (at_far (c := w.heap.size) (o := 2) (at_far (c := w.heap.size) (o := 1) (at_far (c := w.heap.size) (o := 0) hA2 (.int .i64 zh) hK hw0) (.int .i64 zs) hK hw0) (.slice a1 n1 p1) hK hw0) (.int .i64 zf) hK hw0) (.slice (some ⟨w6.heap.size, 0, none⟩) 2001 2001) hK hw0; have t0 := BR.k0; have t1 := BR.k1; have t2 := BR.k2; have t3 := BR.k3; have t4 := BR.k4; obtain ⟨l, k0, f0, k1, f1, k2, f2, k3, f3, k4, f4⟩ := VS2; obtain ⟨lq, r0, g0, r1, g1, r2, g2, r3, g3, r4, g4⟩ := VQ2; clear BR)
          exact bodyPost_ret (v := .agg #[.int .i64 zh, .int .i64 zs, .slice a1 n1 p1, .int .i64 zf, .slice (some ⟨w6.heap.size, 0, none⟩) 2001 2001]) (by simp [results, Try.results20, go_sem, t0, t1, t2, t3, t4]) rfl ⟨_, _, _, _, _, _, _, _, _, rfl, hn1, by decide, AR⟩
end Go.Proofs.Ytlfkjjnhlkaipaa
