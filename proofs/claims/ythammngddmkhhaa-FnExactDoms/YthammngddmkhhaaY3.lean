/- How much a tree takes: the laws' own functions sz. -/
import Derived.Test.YthammngddmkhhaaY2
import Derived.Deep.RegionWith
namespace Go.Proofs.Ythammngddmkhhaa
open Go.RowKit

/-- What is left. -/
def szR (left : Int) (s : Nat) : Int := if (s : Int) ≤ left then left - s else -1
theorem szR_pos {left : Int} {s : Nat} (h : (s : Int) ≤ left) : szR left s = left - s := if_pos h
theorem szR_neg {left : Int} {s : Nat} (h : ¬ (s : Int) ≤ left) : szR left s = -1 := if_neg h

theorem szIns_any (v : Value) (l : List In) (left : Int) (w : World) (h : RdL w 1 v (In.dats l)) (h0 : 0 ≤ left) (h1 : left ≤ 1048576) :
    Calls Try.prog 44 #[v, .int .i64 left] w fun e w' => e = .returned (.int .i64 (szR left (In.szs l))) ∧ Later w w' := by
  unfold In.szs
  obtain ⟨a, cap, rfl, hl⟩ := In.slice h
  by_cases hc : (l.length : Int) ≤ left
  · rw [szR_pos hc]
    have hn : ¬ left - (l.length : Int) < 0 := by omega
    have r1 : -9223372036854775808 ≤ left - (l.length : Int) := by omega
    have r2 : left - (l.length : Int) ≤ 9223372036854775807 := by omega
    go_enter Try.func44, Try.ntmps44
    go_wp2
    go_ret
    exact ⟨rfl, Later.refl _⟩
  · rw [szR_neg hc]
    have hn : left - (l.length : Int) < 0 := by omega
    have r1 : -9223372036854775808 ≤ left - (l.length : Int) := by omega
    have r2 : left - (l.length : Int) ≤ 9223372036854775807 := by omega
    go_enter Try.func44, Try.ntmps44
    go_wp2
    go_ret
    exact ⟨rfl, Later.refl _⟩

theorem szTps_any (v : Value) (l : List Tp) (left : Int) (w : World) (h : RdL w 2 v (Tp.dats l)) (h0 : 0 ≤ left) (h1 : left ≤ 1048576) :
    Calls Try.prog 13 #[v, .int .i64 left] w fun e w' => e = .returned (.int .i64 (szR left (Tp.szs l))) ∧ Later w w' := by
  unfold Tp.szs
  obtain ⟨a, cap, rfl, hl⟩ := Tp.slice h
  by_cases hc : (l.length : Int) ≤ left
  · rw [szR_pos hc]
    have hn : ¬ left - (l.length : Int) < 0 := by omega
    have r1 : -9223372036854775808 ≤ left - (l.length : Int) := by omega
    have r2 : left - (l.length : Int) ≤ 9223372036854775807 := by omega
    go_enter Try.func13, Try.ntmps13
    go_wp2
    go_ret
    exact ⟨rfl, Later.refl _⟩
  · rw [szR_neg hc]
    have hn : left - (l.length : Int) < 0 := by omega
    have r1 : -9223372036854775808 ≤ left - (l.length : Int) := by omega
    have r2 : left - (l.length : Int) ≤ 9223372036854775807 := by omega
    go_enter Try.func13, Try.ntmps13
    go_wp2
    go_ret
    exact ⟨rfl, Later.refl _⟩

set_option maxHeartbeats 1000000 in
theorem szVa_any (x : Va) (v0 : Value) (left : Int) (w : World) (h0 : RdL w 1 v0 (In.dats x.args)) (hl0 : 0 ≤ left) (hl1 : left ≤ 1048576) :
    Calls Try.prog 34 #[.agg #[.int .i64 x.op, .int .i64 x.n, .int .i64 x.tk, .int .i64 x.tn, v0], .int .i64 left] w fun e w' => e = .returned (.int .i64 (szR left x.sz)) ∧ Later w w' := by
  have L0 := later1 w (.cells #[.int .i64 x.op, .int .i64 x.n, .int .i64 x.tk, .int .i64 x.tn, v0] 70)
  have hsz : x.sz = In.szs x.args := by obtain ⟨op, n, tk, tn, args⟩ := x; rfl
  rw [hsz]
  obtain ⟨a0, p0, rfl, _⟩ := In.slice h0
  clear hsz
  generalize x.op = z_op at *
  generalize x.n = z_n at *
  generalize x.tk = z_tk at *
  generalize x.tn = z_tn at *
  go_enter Try.func34, Try.ntmps34
  go_wp2_with fail
  refine (szIns_any _ _ (left) _ (RdL.later L0 h0) (by omega) (by omega)).mono ?_
  rintro e w1 ⟨rfl, l1⟩
  by_cases q0 : ((In.szs x.args : Nat) : Int) ≤ left
  · rw [szR_pos q0]
    have n0 : ¬ left - ((In.szs x.args : Nat) : Int) < 0 := by omega
    go_wp2_with fail
    go_ret
    exact ⟨ret_int (by rw [szR_pos (by omega)]; first | done | omega), (L0.trans l1)⟩
  · rw [szR_neg q0]
    go_wp2_with fail
    go_ret
    exact ⟨ret_int (by rw [szR_neg (by omega)]), (L0.trans l1)⟩

set_option maxHeartbeats 2000000 in
theorem szVas_any (v : Value) (l : List Va) (left : Int) (w : World) (h : RdL w 5 v (Va.dats l)) (hl0 : 0 ≤ left) (hl1 : left ≤ 1048576) :
    Calls Try.prog 14 #[v, .int .i64 left] w fun e w' => e = .returned (.int .i64 (szR left (Va.szs l))) ∧ Later w w' := by
  obtain ⟨a, cap, rfl, hl⟩ := Va.slice h
  by_cases hc : (l.length : Int) ≤ left
  · have hn : ¬ left - (l.length : Int) < 0 := by omega
    have r1 : -9223372036854775808 ≤ left - (l.length : Int) := by omega
    have r2 : left - (l.length : Int) ≤ 9223372036854775807 := by omega
    go_enter Try.func14, Try.ntmps14
    go_wp2_with fail
    go_loopw [1, 5] (fun lf i wr => ∃ k : Nat, lf = .int .i64 (left - (l.length : Int) - (Va.pre l k : Nat)) ∧ i = .int .i64 (k : Int) ∧ k ≤ l.length ∧ 0 ≤ left - (l.length : Int) - (Va.pre l k : Nat) ∧ Later w wr) (fun _ i _ => l.length - (intOf i).toNat)
    case atStart => exact ⟨0, by rw [Va.pre_zero]; simp, rfl, Nat.zero_le _, by rw [Va.pre_zero]; simp; omega, Later.refl _⟩
    case round =>
      obtain ⟨k, rfl, rfl, hk, hp, lr⟩ := hrel
      by_cases hlt : k < l.length
      · obtain ⟨g, off, v0, rfl, hg, c0, c1, c2, c3, c4, r0⟩ := Va.elem (RdL.later lr h) k hlt
        have i1 : (k : Int) < (l.length : Int) := by omega
        have hE := szVa_any l[k] v0 (left - (l.length : Int) - (Va.pre l k : Nat)) wr r0 hp (by omega) 
        have hps := Va.pre_succ hlt
        have HP : Hid (Va.pre l (k + 1) = Va.pre l k + l[k].sz) := hps
        have hall := Va.pre_le l (k + 1) (by omega)
        clear hps r0
        generalize l[k].sz = S at *
        generalize l[k].op = z_op at *
        generalize l[k].n = z_n at *
        generalize l[k].tk = z_tk at *
        generalize l[k].tn = z_tn at *
        go_wp2_with fail
        refine hE.mono ?_
        rintro e w1 ⟨rfl, l1⟩
        by_cases q : ((S : Nat) : Int) ≤ left - (l.length : Int) - (Va.pre l k : Nat)
        · rw [szR_pos q]
          have n1 : ¬ left - (l.length : Int) - (Va.pre l k : Nat) - (S : Nat) < 0 := by omega
          go_wp2_with fail
          go_roundw
          case rel => exact ⟨k + 1, by rw [HP.out]; go_num, by go_num, by omega, by rw [HP.out]; omega, lr.trans l1⟩
          case measure => simp [intOf]; omega
        · rw [szR_neg q]
          go_wp2_with fail
          go_ret
          exact ⟨ret_int (by rw [szR_neg]; rw [HP.out] at hall; omega), lr.trans l1⟩
      · have i1 : ¬ (k : Int) < (l.length : Int) := by omega
        have i2 : decide ((k : Int) < (l.length : Int)) = false := decide_eq_false i1
        have hkk : k = l.length := by omega
        have hall := Va.pre_all l
        subst hkk
        go_wp2_with fail
        go_ret
        exact ⟨ret_int (by rw [szR_pos (by omega)]; first | done | omega), lr⟩
  · have hn : left - (l.length : Int) < 0 := by omega
    have r1 : -9223372036854775808 ≤ left - (l.length : Int) := by omega
    have r2 : left - (l.length : Int) ≤ 9223372036854775807 := by omega
    have hge := Va.szs_ge l
    go_enter Try.func14, Try.ntmps14
    go_wp2_with fail
    go_ret
    exact ⟨ret_int (by rw [szR_neg (by omega)]), Later.refl _⟩

set_option maxHeartbeats 1000000 in
theorem szEd_any (x : Ed) (v0 : Value) (left : Int) (w : World) (h0 : RdL w 1 v0 (In.dats x.args)) (hl0 : 0 ≤ left) (hl1 : left ≤ 1048576) :
    Calls Try.prog 49 #[.agg #[.int .i64 x.to, v0], .int .i64 left] w fun e w' => e = .returned (.int .i64 (szR left x.sz)) ∧ Later w w' := by
  have L0 := later1 w (.cells #[.int .i64 x.to, v0] 96)
  have hsz : x.sz = In.szs x.args := by obtain ⟨to, args⟩ := x; rfl
  rw [hsz]
  obtain ⟨a0, p0, rfl, _⟩ := In.slice h0
  clear hsz
  generalize x.to = z_to at *
  go_enter Try.func49, Try.ntmps49
  go_wp2_with fail
  refine (szIns_any _ _ (left) _ (RdL.later L0 h0) (by omega) (by omega)).mono ?_
  rintro e w1 ⟨rfl, l1⟩
  by_cases q0 : ((In.szs x.args : Nat) : Int) ≤ left
  · rw [szR_pos q0]
    have n0 : ¬ left - ((In.szs x.args : Nat) : Int) < 0 := by omega
    go_wp2_with fail
    go_ret
    exact ⟨ret_int (by rw [szR_pos (by omega)]; first | done | omega), (L0.trans l1)⟩
  · rw [szR_neg q0]
    go_wp2_with fail
    go_ret
    exact ⟨ret_int (by rw [szR_neg (by omega)]), (L0.trans l1)⟩

set_option maxHeartbeats 2000000 in
theorem szEds_any (v : Value) (l : List Ed) (left : Int) (w : World) (h : RdL w 2 v (Ed.dats l)) (hl0 : 0 ≤ left) (hl1 : left ≤ 1048576) :
    Calls Try.prog 45 #[v, .int .i64 left] w fun e w' => e = .returned (.int .i64 (szR left (Ed.szs l))) ∧ Later w w' := by
  obtain ⟨a, cap, rfl, hl⟩ := Ed.slice h
  by_cases hc : (l.length : Int) ≤ left
  · have hn : ¬ left - (l.length : Int) < 0 := by omega
    have r1 : -9223372036854775808 ≤ left - (l.length : Int) := by omega
    have r2 : left - (l.length : Int) ≤ 9223372036854775807 := by omega
    go_enter Try.func45, Try.ntmps45
    go_wp2_with fail
    go_loopw [1, 5] (fun lf i wr => ∃ k : Nat, lf = .int .i64 (left - (l.length : Int) - (Ed.pre l k : Nat)) ∧ i = .int .i64 (k : Int) ∧ k ≤ l.length ∧ 0 ≤ left - (l.length : Int) - (Ed.pre l k : Nat) ∧ Later w wr) (fun _ i _ => l.length - (intOf i).toNat)
    case atStart => exact ⟨0, by rw [Ed.pre_zero]; simp, rfl, Nat.zero_le _, by rw [Ed.pre_zero]; simp; omega, Later.refl _⟩
    case round =>
      obtain ⟨k, rfl, rfl, hk, hp, lr⟩ := hrel
      by_cases hlt : k < l.length
      · obtain ⟨g, off, v0, rfl, hg, c0, c1, r0⟩ := Ed.elem (RdL.later lr h) k hlt
        have i1 : (k : Int) < (l.length : Int) := by omega
        have hE := szEd_any l[k] v0 (left - (l.length : Int) - (Ed.pre l k : Nat)) wr r0 hp (by omega) 
        have hps := Ed.pre_succ hlt
        have HP : Hid (Ed.pre l (k + 1) = Ed.pre l k + l[k].sz) := hps
        have hall := Ed.pre_le l (k + 1) (by omega)
        clear hps r0
        generalize l[k].sz = S at *
        generalize l[k].to = z_to at *
        go_wp2_with fail
        refine hE.mono ?_
        rintro e w1 ⟨rfl, l1⟩
        by_cases q : ((S : Nat) : Int) ≤ left - (l.length : Int) - (Ed.pre l k : Nat)
        · rw [szR_pos q]
          have n1 : ¬ left - (l.length : Int) - (Ed.pre l k : Nat) - (S : Nat) < 0 := by omega
          go_wp2_with fail
          go_roundw
          case rel => exact ⟨k + 1, by rw [HP.out]; go_num, by go_num, by omega, by rw [HP.out]; omega, lr.trans l1⟩
          case measure => simp [intOf]; omega
        · rw [szR_neg q]
          go_wp2_with fail
          go_ret
          exact ⟨ret_int (by rw [szR_neg]; rw [HP.out] at hall; omega), lr.trans l1⟩
      · have i1 : ¬ (k : Int) < (l.length : Int) := by omega
        have i2 : decide ((k : Int) < (l.length : Int)) = false := decide_eq_false i1
        have hkk : k = l.length := by omega
        have hall := Ed.pre_all l
        subst hkk
        go_wp2_with fail
        go_ret
        exact ⟨ret_int (by rw [szR_pos (by omega)]; first | done | omega), lr⟩
  · have hn : left - (l.length : Int) < 0 := by omega
    have r1 : -9223372036854775808 ≤ left - (l.length : Int) := by omega
    have r2 : left - (l.length : Int) ≤ 9223372036854775807 := by omega
    have hge := Ed.szs_ge l
    go_enter Try.func45, Try.ntmps45
    go_wp2_with fail
    go_ret
    exact ⟨ret_int (by rw [szR_neg (by omega)]), Later.refl _⟩

set_option maxHeartbeats 1000000 in
theorem szBl_any (x : Bl) (v0 v1 v2 v3 : Value) (left : Int) (w : World) (h0 : RdL w 1 v0 (In.dats x.params)) (h1 : RdL w 1 v1 (In.dats x.code)) (h2 : RdL w 1 v2 (In.dats x.args)) (h3 : RdL w 2 v3 (Ed.dats x.out)) (hl0 : 0 ≤ left) (hl1 : left ≤ 1048576) :
    Calls Try.prog 35 #[.agg #[v0, v1, .int .i64 x.term, v2, v3], .int .i64 left] w fun e w' => e = .returned (.int .i64 (szR left x.sz)) ∧ Later w w' := by
  have L0 := later1 w (.cells #[v0, v1, .int .i64 x.term, v2, v3] 74)
  have hsz : x.sz = In.szs x.params + In.szs x.code + In.szs x.args + Ed.szs x.out := by obtain ⟨params, code, term, args, out⟩ := x; rfl
  rw [hsz]
  obtain ⟨a0, p0, rfl, _⟩ := In.slice h0
  obtain ⟨a1, p1, rfl, _⟩ := In.slice h1
  obtain ⟨a2, p2, rfl, _⟩ := In.slice h2
  obtain ⟨a3, p3, rfl, _⟩ := Ed.slice h3
  clear hsz
  generalize x.term = z_term at *
  go_enter Try.func35, Try.ntmps35
  go_wp2_with fail
  refine (szIns_any _ _ (left) _ (RdL.later L0 h0) (by omega) (by omega)).mono ?_
  rintro e w1 ⟨rfl, l1⟩
  by_cases q0 : ((In.szs x.params : Nat) : Int) ≤ left
  · rw [szR_pos q0]
    have n0 : ¬ left - ((In.szs x.params : Nat) : Int) < 0 := by omega
    have bx1 : w1.cell? ⟨w.heap.size, 1, none⟩ = some (.slice a1 x.code.length p1) := by rw [Below.cell (l1) (p := ⟨w.heap.size, 1, none⟩) (by simp)]; simp
    go_wp2_with fail
    refine (szIns_any _ _ (left - ((In.szs x.params : Nat) : Int)) _ (RdL.later (L0.trans l1) h1) (by omega) (by omega)).mono ?_
    rintro e w2 ⟨rfl, l2⟩
    by_cases q1 : ((In.szs x.code : Nat) : Int) ≤ left - ((In.szs x.params : Nat) : Int)
    · rw [szR_pos q1]
      have n1 : ¬ left - ((In.szs x.params : Nat) : Int) - ((In.szs x.code : Nat) : Int) < 0 := by omega
      have bx2 : w2.cell? ⟨w.heap.size, 3, none⟩ = some (.slice a2 x.args.length p2) := by rw [Below.cell ((l1).trans l2) (p := ⟨w.heap.size, 3, none⟩) (by simp)]; simp
      go_wp2_with fail
      refine (szIns_any _ _ (left - ((In.szs x.params : Nat) : Int) - ((In.szs x.code : Nat) : Int)) _ (RdL.later ((L0.trans l1).trans l2) h2) (by omega) (by omega)).mono ?_
      rintro e w3 ⟨rfl, l3⟩
      by_cases q2 : ((In.szs x.args : Nat) : Int) ≤ left - ((In.szs x.params : Nat) : Int) - ((In.szs x.code : Nat) : Int)
      · rw [szR_pos q2]
        have n2 : ¬ left - ((In.szs x.params : Nat) : Int) - ((In.szs x.code : Nat) : Int) - ((In.szs x.args : Nat) : Int) < 0 := by omega
        have bx3 : w3.cell? ⟨w.heap.size, 4, none⟩ = some (.slice a3 x.out.length p3) := by rw [Below.cell (((l1).trans l2).trans l3) (p := ⟨w.heap.size, 4, none⟩) (by simp)]; simp
        go_wp2_with fail
        refine (szEds_any _ _ (left - ((In.szs x.params : Nat) : Int) - ((In.szs x.code : Nat) : Int) - ((In.szs x.args : Nat) : Int)) _ (RdL.later (((L0.trans l1).trans l2).trans l3) h3) (by omega) (by omega)).mono ?_
        rintro e w4 ⟨rfl, l4⟩
        by_cases q3 : ((Ed.szs x.out : Nat) : Int) ≤ left - ((In.szs x.params : Nat) : Int) - ((In.szs x.code : Nat) : Int) - ((In.szs x.args : Nat) : Int)
        · rw [szR_pos q3]
          have n3 : ¬ left - ((In.szs x.params : Nat) : Int) - ((In.szs x.code : Nat) : Int) - ((In.szs x.args : Nat) : Int) - ((Ed.szs x.out : Nat) : Int) < 0 := by omega
          go_wp2_with fail
          go_ret
          exact ⟨ret_int (by rw [szR_pos (by omega)]; first | done | omega), ((((L0.trans l1).trans l2).trans l3).trans l4)⟩
        · rw [szR_neg q3]
          go_wp2_with fail
          go_ret
          exact ⟨ret_int (by rw [szR_neg (by omega)]), ((((L0.trans l1).trans l2).trans l3).trans l4)⟩
      · rw [szR_neg q2]
        go_wp2_with fail
        go_ret
        exact ⟨ret_int (by rw [szR_neg (by omega)]), (((L0.trans l1).trans l2).trans l3)⟩
    · rw [szR_neg q1]
      go_wp2_with fail
      go_ret
      exact ⟨ret_int (by rw [szR_neg (by omega)]), ((L0.trans l1).trans l2)⟩
  · rw [szR_neg q0]
    go_wp2_with fail
    go_ret
    exact ⟨ret_int (by rw [szR_neg (by omega)]), (L0.trans l1)⟩

set_option maxHeartbeats 2000000 in
theorem szBls_any (v : Value) (l : List Bl) (left : Int) (w : World) (h : RdL w 5 v (Bl.dats l)) (hl0 : 0 ≤ left) (hl1 : left ≤ 1048576) :
    Calls Try.prog 15 #[v, .int .i64 left] w fun e w' => e = .returned (.int .i64 (szR left (Bl.szs l))) ∧ Later w w' := by
  obtain ⟨a, cap, rfl, hl⟩ := Bl.slice h
  by_cases hc : (l.length : Int) ≤ left
  · have hn : ¬ left - (l.length : Int) < 0 := by omega
    have r1 : -9223372036854775808 ≤ left - (l.length : Int) := by omega
    have r2 : left - (l.length : Int) ≤ 9223372036854775807 := by omega
    go_enter Try.func15, Try.ntmps15
    go_wp2_with fail
    go_loopw [1, 5] (fun lf i wr => ∃ k : Nat, lf = .int .i64 (left - (l.length : Int) - (Bl.pre l k : Nat)) ∧ i = .int .i64 (k : Int) ∧ k ≤ l.length ∧ 0 ≤ left - (l.length : Int) - (Bl.pre l k : Nat) ∧ Later w wr) (fun _ i _ => l.length - (intOf i).toNat)
    case atStart => exact ⟨0, by rw [Bl.pre_zero]; simp, rfl, Nat.zero_le _, by rw [Bl.pre_zero]; simp; omega, Later.refl _⟩
    case round =>
      obtain ⟨k, rfl, rfl, hk, hp, lr⟩ := hrel
      by_cases hlt : k < l.length
      · obtain ⟨g, off, v0, v1, v2, v3, rfl, hg, c0, c1, c2, c3, c4, r0, r1, r2, r3⟩ := Bl.elem (RdL.later lr h) k hlt
        have i1 : (k : Int) < (l.length : Int) := by omega
        have hE := szBl_any l[k] v0 v1 v2 v3 (left - (l.length : Int) - (Bl.pre l k : Nat)) wr r0 r1 r2 r3 hp (by omega) 
        have hps := Bl.pre_succ hlt
        have HP : Hid (Bl.pre l (k + 1) = Bl.pre l k + l[k].sz) := hps
        have hall := Bl.pre_le l (k + 1) (by omega)
        clear hps r0 r1 r2 r3
        generalize l[k].sz = S at *
        generalize l[k].term = z_term at *
        go_wp2_with fail
        refine hE.mono ?_
        rintro e w1 ⟨rfl, l1⟩
        by_cases q : ((S : Nat) : Int) ≤ left - (l.length : Int) - (Bl.pre l k : Nat)
        · rw [szR_pos q]
          have n1 : ¬ left - (l.length : Int) - (Bl.pre l k : Nat) - (S : Nat) < 0 := by omega
          go_wp2_with fail
          go_roundw
          case rel => exact ⟨k + 1, by rw [HP.out]; go_num, by go_num, by omega, by rw [HP.out]; omega, lr.trans l1⟩
          case measure => simp [intOf]; omega
        · rw [szR_neg q]
          go_wp2_with fail
          go_ret
          exact ⟨ret_int (by rw [szR_neg]; rw [HP.out] at hall; omega), lr.trans l1⟩
      · have i1 : ¬ (k : Int) < (l.length : Int) := by omega
        have i2 : decide ((k : Int) < (l.length : Int)) = false := decide_eq_false i1
        have hkk : k = l.length := by omega
        have hall := Bl.pre_all l
        subst hkk
        go_wp2_with fail
        go_ret
        exact ⟨ret_int (by rw [szR_pos (by omega)]; first | done | omega), lr⟩
  · have hn : left - (l.length : Int) < 0 := by omega
    have r1 : -9223372036854775808 ≤ left - (l.length : Int) := by omega
    have r2 : left - (l.length : Int) ≤ 9223372036854775807 := by omega
    have hge := Bl.szs_ge l
    go_enter Try.func15, Try.ntmps15
    go_wp2_with fail
    go_ret
    exact ⟨ret_int (by rw [szR_neg (by omega)]), Later.refl _⟩

set_option maxHeartbeats 1000000 in
theorem szFc_any (x : Fc) (v0 v1 v2 : Value) (left : Int) (w : World) (h0 : RdL w 2 v0 (Tp.dats x.params)) (h1 : RdL w 5 v1 (Va.dats x.vals)) (h2 : RdL w 5 v2 (Bl.dats x.blocks)) (hl0 : 0 ≤ left) (hl1 : left ≤ 1048576) :
    Calls Try.prog 4 #[.agg #[v0, .int .i64 x.rk, .int .i64 x.rn, v1, v2], .int .i64 left] w fun e w' => e = .returned (.int .i64 (szR left x.sz)) ∧ Later w w' := by
  have L0 := later1 w (.cells #[v0, .int .i64 x.rk, .int .i64 x.rn, v1, v2] 28)
  have hsz : x.sz = Tp.szs x.params + Va.szs x.vals + Bl.szs x.blocks := by obtain ⟨params, rk, rn, vals, blocks⟩ := x; rfl
  rw [hsz]
  obtain ⟨a0, p0, rfl, _⟩ := Tp.slice h0
  obtain ⟨a1, p1, rfl, _⟩ := Va.slice h1
  obtain ⟨a2, p2, rfl, _⟩ := Bl.slice h2
  clear hsz
  generalize x.rk = z_rk at *
  generalize x.rn = z_rn at *
  go_enter Try.func4, Try.ntmps4
  go_wp2_with fail
  refine (szTps_any _ _ (left) _ (RdL.later L0 h0) (by omega) (by omega)).mono ?_
  rintro e w1 ⟨rfl, l1⟩
  by_cases q0 : ((Tp.szs x.params : Nat) : Int) ≤ left
  · rw [szR_pos q0]
    have n0 : ¬ left - ((Tp.szs x.params : Nat) : Int) < 0 := by omega
    have bx1 : w1.cell? ⟨w.heap.size, 3, none⟩ = some (.slice a1 x.vals.length p1) := by rw [Below.cell (l1) (p := ⟨w.heap.size, 3, none⟩) (by simp)]; simp
    go_wp2_with fail
    refine (szVas_any _ _ (left - ((Tp.szs x.params : Nat) : Int)) _ (RdL.later (L0.trans l1) h1) (by omega) (by omega)).mono ?_
    rintro e w2 ⟨rfl, l2⟩
    by_cases q1 : ((Va.szs x.vals : Nat) : Int) ≤ left - ((Tp.szs x.params : Nat) : Int)
    · rw [szR_pos q1]
      have n1 : ¬ left - ((Tp.szs x.params : Nat) : Int) - ((Va.szs x.vals : Nat) : Int) < 0 := by omega
      have bx2 : w2.cell? ⟨w.heap.size, 4, none⟩ = some (.slice a2 x.blocks.length p2) := by rw [Below.cell ((l1).trans l2) (p := ⟨w.heap.size, 4, none⟩) (by simp)]; simp
      go_wp2_with fail
      refine (szBls_any _ _ (left - ((Tp.szs x.params : Nat) : Int) - ((Va.szs x.vals : Nat) : Int)) _ (RdL.later ((L0.trans l1).trans l2) h2) (by omega) (by omega)).mono ?_
      rintro e w3 ⟨rfl, l3⟩
      by_cases q2 : ((Bl.szs x.blocks : Nat) : Int) ≤ left - ((Tp.szs x.params : Nat) : Int) - ((Va.szs x.vals : Nat) : Int)
      · rw [szR_pos q2]
        have n2 : ¬ left - ((Tp.szs x.params : Nat) : Int) - ((Va.szs x.vals : Nat) : Int) - ((Bl.szs x.blocks : Nat) : Int) < 0 := by omega
        go_wp2_with fail
        go_ret
        exact ⟨ret_int (by rw [szR_pos (by omega)]; first | done | omega), (((L0.trans l1).trans l2).trans l3)⟩
      · rw [szR_neg q2]
        go_wp2_with fail
        go_ret
        exact ⟨ret_int (by rw [szR_neg (by omega)]), (((L0.trans l1).trans l2).trans l3)⟩
    · rw [szR_neg q1]
      go_wp2_with fail
      go_ret
      exact ⟨ret_int (by rw [szR_neg (by omega)]), ((L0.trans l1).trans l2)⟩
  · rw [szR_neg q0]
    go_wp2_with fail
    go_ret
    exact ⟨ret_int (by rw [szR_neg (by omega)]), (L0.trans l1)⟩

end Go.Proofs.Ythammngddmkhhaa
