/- How much a tree takes: the laws' own functions sz. -/
import Derived.Test.YtindomjaaklgjaaJ2
import Derived.Deep.RegionWith
namespace Go.Proofs.Ytindomjaaklgjaa
open Go.RowKit

/-- What is left. -/
def szR (left : Int) (s : Nat) : Int := if (s : Int) ≤ left then left - s else -1
theorem szR_pos {left : Int} {s : Nat} (h : (s : Int) ≤ left) : szR left s = left - s := if_pos h
theorem szR_neg {left : Int} {s : Nat} (h : ¬ (s : Int) ≤ left) : szR left s = -1 := if_neg h

theorem szIns_any (v : Value) (l : List In) (left : Int) (w : World) (h : RdL w 1 v (In.dats l)) (h0 : 0 ≤ left) (h1 : left ≤ 1048576) :
    Calls Try.prog 102 #[v, .int .i64 left] w fun e w' => e = .returned (.int .i64 (szR left (In.szs l))) ∧ Later w w' := by
  unfold In.szs
  obtain ⟨a, cap, rfl, hl⟩ := In.slice h
  by_cases hc : (l.length : Int) ≤ left
  · rw [szR_pos hc]
    have hn : ¬ left - (l.length : Int) < 0 := by omega
    have r1 : -9223372036854775808 ≤ left - (l.length : Int) := by omega
    have r2 : left - (l.length : Int) ≤ 9223372036854775807 := by omega
    go_enter Try.func102, Try.ntmps102
    go_wp2
    go_ret
    exact ⟨rfl, Later.refl _⟩
  · rw [szR_neg hc]
    have hn : left - (l.length : Int) < 0 := by omega
    have r1 : -9223372036854775808 ≤ left - (l.length : Int) := by omega
    have r2 : left - (l.length : Int) ≤ 9223372036854775807 := by omega
    go_enter Try.func102, Try.ntmps102
    go_wp2
    go_ret
    exact ⟨rfl, Later.refl _⟩

theorem szBos_any (v : Value) (l : List Bo) (left : Int) (w : World) (h : RdL w 1 v (Bo.dats l)) (h0 : 0 ≤ left) (h1 : left ≤ 1048576) :
    Calls Try.prog 44 #[v, .int .i64 left] w fun e w' => e = .returned (.int .i64 (szR left (Bo.szs l))) ∧ Later w w' := by
  unfold Bo.szs
  obtain ⟨a, cap, rfl, hl⟩ := Bo.slice h
  by_cases hc : (l.length : Int) ≤ left
  · rw [szR_pos hc]
    have hn : ¬ left - (l.length : Int) < 0 := by omega
    have r1 : -9223372036854775808 ≤ left - (l.length : Int) := by omega
    have r2 : left - (l.length : Int) ≤ 9223372036854775807 := by omega
    go_enter Try.func44, Try.ntmps44
    go_wp2
    go_ret
    exact ⟨rfl, Later.refl _⟩
  · rw [szR_neg hc]
    have hn : left - (l.length : Int) < 0 := by omega
    have r1 : -9223372036854775808 ≤ left - (l.length : Int) := by omega
    have r2 : left - (l.length : Int) ≤ 9223372036854775807 := by omega
    go_enter Try.func44, Try.ntmps44
    go_wp2
    go_ret
    exact ⟨rfl, Later.refl _⟩

theorem szIss_any (v : Value) (l : List Is) (left : Int) (w : World) (h : RdL w 5 v (Is.dats l)) (h0 : 0 ≤ left) (h1 : left ≤ 1048576) :
    Calls Try.prog 72 #[v, .int .i64 left] w fun e w' => e = .returned (.int .i64 (szR left (Is.szs l))) ∧ Later w w' := by
  unfold Is.szs
  obtain ⟨a, cap, rfl, hl⟩ := Is.slice h
  by_cases hc : (l.length : Int) ≤ left
  · rw [szR_pos hc]
    have hn : ¬ left - (l.length : Int) < 0 := by omega
    have r1 : -9223372036854775808 ≤ left - (l.length : Int) := by omega
    have r2 : left - (l.length : Int) ≤ 9223372036854775807 := by omega
    go_enter Try.func72, Try.ntmps72
    go_wp2
    go_ret
    exact ⟨rfl, Later.refl _⟩
  · rw [szR_neg hc]
    have hn : left - (l.length : Int) < 0 := by omega
    have r1 : -9223372036854775808 ≤ left - (l.length : Int) := by omega
    have r2 : left - (l.length : Int) ≤ 9223372036854775807 := by omega
    go_enter Try.func72, Try.ntmps72
    go_wp2
    go_ret
    exact ⟨rfl, Later.refl _⟩

theorem szBs_any (x : Bs) (v0 : Value) (left : Int) (w : World) (h0 : RdL w 1 v0 (Bo.dats x.l)) (hl0 : 0 ≤ left) (hl1 : left ≤ 1048576) :
    Calls Try.prog 44 #[v0, .int .i64 left] w fun e w' => e = .returned (.int .i64 (szR left x.sz)) ∧ Later w w' := by
  obtain ⟨l⟩ := x
  exact szBos_any v0 l left w h0 hl0 hl1
set_option maxHeartbeats 2000000 in
theorem szBss_any (v : Value) (l : List Bs) (left : Int) (w : World) (h : RdL w 1 v (Bs.dats l)) (hl0 : 0 ≤ left) (hl1 : left ≤ 1048576) :
    Calls Try.prog 21 #[v, .int .i64 left] w fun e w' => e = .returned (.int .i64 (szR left (Bs.szs l))) ∧ Later w w' := by
  obtain ⟨a, cap, rfl, hl⟩ := Bs.slice h
  by_cases hc : (l.length : Int) ≤ left
  · have hn : ¬ left - (l.length : Int) < 0 := by omega
    have r1 : -9223372036854775808 ≤ left - (l.length : Int) := by omega
    have r2 : left - (l.length : Int) ≤ 9223372036854775807 := by omega
    go_enter Try.func21, Try.ntmps21
    go_wp2_with fail
    go_loopw [1, 5] (fun lf i wr => ∃ k : Nat, lf = .int .i64 (left - (l.length : Int) - (Bs.pre l k : Nat)) ∧ i = .int .i64 (k : Int) ∧ k ≤ l.length ∧ 0 ≤ left - (l.length : Int) - (Bs.pre l k : Nat) ∧ Later w wr) (fun _ i _ => l.length - (intOf i).toNat)
    case atStart => exact ⟨0, by rw [Bs.pre_zero]; simp, rfl, Nat.zero_le _, by rw [Bs.pre_zero]; simp; omega, Later.refl _⟩
    case round =>
      obtain ⟨k, rfl, rfl, hk, hp, lr⟩ := hrel
      by_cases hlt : k < l.length
      · obtain ⟨g, off, v0, rfl, hg, c0, r0⟩ := Bs.elem (RdL.later lr h) k hlt
        have i1 : (k : Int) < (l.length : Int) := by omega
        rw [Nat.mul_one] at c0
        obtain ⟨a0, p0, rfl, _⟩ := Bo.slice r0
        have hE := szBs_any l[k] _ (left - (l.length : Int) - (Bs.pre l k : Nat)) wr r0 hp (by omega)
        have hps := Bs.pre_succ hlt
        have HP : Hid (Bs.pre l (k + 1) = Bs.pre l k + l[k].sz) := hps
        have hall := Bs.pre_le l (k + 1) (by omega)
        clear hps r0
        generalize l[k].sz = S at *
        go_wp2_with fail
        refine hE.mono ?_
        rintro e w1 ⟨rfl, l1⟩
        by_cases q : ((S : Nat) : Int) ≤ left - (l.length : Int) - (Bs.pre l k : Nat)
        · rw [szR_pos q]
          have n1 : ¬ left - (l.length : Int) - (Bs.pre l k : Nat) - (S : Nat) < 0 := by omega
          go_wp2_with fail
          go_roundw
          case rel => exact ⟨k + 1, by rw [HP.out]; go_num, by go_num, by omega, by rw [HP.out]; omega, lr.trans l1⟩
          case measure => simp [intOf]; omega
        · rw [szR_neg q]
          go_wp2_with fail
          go_ret
          exact ⟨ret_int (by rw [szR_neg]; rw [HP.out] at hall; omega), lr.trans l1⟩
      · have i1 : ¬ (k : Int) < (l.length : Int) := by omega
        have i2 : decide ((k : Int) < (l.length : Int)) = false := decide_eq_false i1
        have hkk : k = l.length := by omega
        have hall := Bs.pre_all l
        subst hkk
        go_wp2_with fail
        go_ret
        exact ⟨ret_int (by rw [szR_pos (by omega)]; first | done | omega), lr⟩
  · have hn : left - (l.length : Int) < 0 := by omega
    have r1 : -9223372036854775808 ≤ left - (l.length : Int) := by omega
    have r2 : left - (l.length : Int) ≤ 9223372036854775807 := by omega
    have hge := Bs.szs_ge l
    go_enter Try.func21, Try.ntmps21
    go_wp2_with fail
    go_ret
    exact ⟨ret_int (by rw [szR_neg (by omega)]), Later.refl _⟩

set_option maxHeartbeats 1000000 in
theorem szMa_any (x : Ma) (v0 : Value) (left : Int) (w : World) (h0 : RdL w 1 v0 (In.dats x.slots)) (hl0 : 0 ≤ left) (hl1 : left ≤ 1048576) :
    Calls Try.prog 95 #[.agg #[.int .i64 x.pc, v0], .int .i64 left] w fun e w' => e = .returned (.int .i64 (szR left x.sz)) ∧ Later w w' := by
  have L0 := later1 w (.cells #[.int .i64 x.pc, v0] 126)
  have hsz : x.sz = In.szs x.slots := by obtain ⟨pc, slots⟩ := x; rfl
  rw [hsz]
  obtain ⟨a0, p0, rfl, _⟩ := In.slice h0
  clear hsz
  generalize x.pc = z_pc at *
  go_enter Try.func95, Try.ntmps95
  go_wp2_with fail
  refine (szIns_any _ _ (left) _ (RdL.later L0 h0) (by omega) (by omega)).mono ?_
  rintro e w1 ⟨rfl, l1⟩
  by_cases q0 : ((In.szs x.slots : Nat) : Int) ≤ left
  · rw [szR_pos q0]
    have n0 : ¬ left - ((In.szs x.slots : Nat) : Int) < 0 := by omega
    go_wp2_with fail
    go_ret
    exact ⟨ret_int (by rw [szR_pos (by omega)]; first | done | omega), (L0.trans l1)⟩
  · rw [szR_neg q0]
    go_wp2_with fail
    go_ret
    exact ⟨ret_int (by rw [szR_neg (by omega)]), (L0.trans l1)⟩

set_option maxHeartbeats 2000000 in
theorem szMas_any (v : Value) (l : List Ma) (left : Int) (w : World) (h : RdL w 2 v (Ma.dats l)) (hl0 : 0 ≤ left) (hl1 : left ≤ 1048576) :
    Calls Try.prog 73 #[v, .int .i64 left] w fun e w' => e = .returned (.int .i64 (szR left (Ma.szs l))) ∧ Later w w' := by
  obtain ⟨a, cap, rfl, hl⟩ := Ma.slice h
  by_cases hc : (l.length : Int) ≤ left
  · have hn : ¬ left - (l.length : Int) < 0 := by omega
    have r1 : -9223372036854775808 ≤ left - (l.length : Int) := by omega
    have r2 : left - (l.length : Int) ≤ 9223372036854775807 := by omega
    go_enter Try.func73, Try.ntmps73
    go_wp2_with fail
    go_loopw [1, 5] (fun lf i wr => ∃ k : Nat, lf = .int .i64 (left - (l.length : Int) - (Ma.pre l k : Nat)) ∧ i = .int .i64 (k : Int) ∧ k ≤ l.length ∧ 0 ≤ left - (l.length : Int) - (Ma.pre l k : Nat) ∧ Later w wr) (fun _ i _ => l.length - (intOf i).toNat)
    case atStart => exact ⟨0, by rw [Ma.pre_zero]; simp, rfl, Nat.zero_le _, by rw [Ma.pre_zero]; simp; omega, Later.refl _⟩
    case round =>
      obtain ⟨k, rfl, rfl, hk, hp, lr⟩ := hrel
      by_cases hlt : k < l.length
      · obtain ⟨g, off, v0, rfl, hg, c0, c1, r0⟩ := Ma.elem (RdL.later lr h) k hlt
        have i1 : (k : Int) < (l.length : Int) := by omega
        have hE := szMa_any l[k] v0 (left - (l.length : Int) - (Ma.pre l k : Nat)) wr r0 hp (by omega) 
        have hps := Ma.pre_succ hlt
        have HP : Hid (Ma.pre l (k + 1) = Ma.pre l k + l[k].sz) := hps
        have hall := Ma.pre_le l (k + 1) (by omega)
        clear hps r0
        generalize l[k].sz = S at *
        generalize l[k].pc = z_pc at *
        go_wp2_with fail
        refine hE.mono ?_
        rintro e w1 ⟨rfl, l1⟩
        by_cases q : ((S : Nat) : Int) ≤ left - (l.length : Int) - (Ma.pre l k : Nat)
        · rw [szR_pos q]
          have n1 : ¬ left - (l.length : Int) - (Ma.pre l k : Nat) - (S : Nat) < 0 := by omega
          go_wp2_with fail
          go_roundw
          case rel => exact ⟨k + 1, by rw [HP.out]; go_num, by go_num, by omega, by rw [HP.out]; omega, lr.trans l1⟩
          case measure => simp [intOf]; omega
        · rw [szR_neg q]
          go_wp2_with fail
          go_ret
          exact ⟨ret_int (by rw [szR_neg]; rw [HP.out] at hall; omega), lr.trans l1⟩
      · have i1 : ¬ (k : Int) < (l.length : Int) := by omega
        have i2 : decide ((k : Int) < (l.length : Int)) = false := decide_eq_false i1
        have hkk : k = l.length := by omega
        have hall := Ma.pre_all l
        subst hkk
        go_wp2_with fail
        go_ret
        exact ⟨ret_int (by rw [szR_pos (by omega)]; first | done | omega), lr⟩
  · have hn : left - (l.length : Int) < 0 := by omega
    have r1 : -9223372036854775808 ≤ left - (l.length : Int) := by omega
    have r2 : left - (l.length : Int) ≤ 9223372036854775807 := by omega
    have hge := Ma.szs_ge l
    go_enter Try.func73, Try.ntmps73
    go_wp2_with fail
    go_ret
    exact ⟨ret_int (by rw [szR_neg (by omega)]), Later.refl _⟩

set_option maxHeartbeats 1000000 in
theorem szCd_any (x : Cd) (v0 v1 : Value) (left : Int) (w : World) (h0 : RdL w 5 v0 (Is.dats x.ins)) (h1 : RdL w 2 v1 (Ma.dats x.maps)) (hl0 : 0 ≤ left) (hl1 : left ≤ 1048576) :
    Calls Try.prog 45 #[.agg #[.int .i64 x.frame, .int .i64 x.params, v0, v1], .int .i64 left] w fun e w' => e = .returned (.int .i64 (szR left x.sz)) ∧ Later w w' := by
  have L0 := later1 w (.cells #[.int .i64 x.frame, .int .i64 x.params, v0, v1] 84)
  have hsz : x.sz = Is.szs x.ins + Ma.szs x.maps := by obtain ⟨frame, params, ins, maps⟩ := x; rfl
  rw [hsz]
  obtain ⟨a0, p0, rfl, _⟩ := Is.slice h0
  obtain ⟨a1, p1, rfl, _⟩ := Ma.slice h1
  clear hsz
  generalize x.frame = z_frame at *
  generalize x.params = z_params at *
  go_enter Try.func45, Try.ntmps45
  go_wp2_with fail
  refine (szIss_any _ _ (left) _ (RdL.later L0 h0) (by omega) (by omega)).mono ?_
  rintro e w1 ⟨rfl, l1⟩
  by_cases q0 : ((Is.szs x.ins : Nat) : Int) ≤ left
  · rw [szR_pos q0]
    have n0 : ¬ left - ((Is.szs x.ins : Nat) : Int) < 0 := by omega
    have bx1 : w1.cell? ⟨w.heap.size, 3, none⟩ = some (.slice a1 x.maps.length p1) := by rw [Below.cell (l1) (p := ⟨w.heap.size, 3, none⟩) (by simp)]; simp
    go_wp2_with fail
    refine (szMas_any _ _ (left - ((Is.szs x.ins : Nat) : Int)) _ (RdL.later (L0.trans l1) h1) (by omega) (by omega)).mono ?_
    rintro e w2 ⟨rfl, l2⟩
    by_cases q1 : ((Ma.szs x.maps : Nat) : Int) ≤ left - ((Is.szs x.ins : Nat) : Int)
    · rw [szR_pos q1]
      have n1 : ¬ left - ((Is.szs x.ins : Nat) : Int) - ((Ma.szs x.maps : Nat) : Int) < 0 := by omega
      go_wp2_with fail
      go_ret
      exact ⟨ret_int (by rw [szR_pos (by omega)]; first | done | omega), ((L0.trans l1).trans l2)⟩
    · rw [szR_neg q1]
      go_wp2_with fail
      go_ret
      exact ⟨ret_int (by rw [szR_neg (by omega)]), ((L0.trans l1).trans l2)⟩
  · rw [szR_neg q0]
    go_wp2_with fail
    go_ret
    exact ⟨ret_int (by rw [szR_neg (by omega)]), (L0.trans l1)⟩

set_option maxHeartbeats 2000000 in
theorem szCds_any (v : Value) (l : List Cd) (left : Int) (w : World) (h : RdL w 4 v (Cd.dats l)) (hl0 : 0 ≤ left) (hl1 : left ≤ 1048576) :
    Calls Try.prog 22 #[v, .int .i64 left] w fun e w' => e = .returned (.int .i64 (szR left (Cd.szs l))) ∧ Later w w' := by
  obtain ⟨a, cap, rfl, hl⟩ := Cd.slice h
  by_cases hc : (l.length : Int) ≤ left
  · have hn : ¬ left - (l.length : Int) < 0 := by omega
    have r1 : -9223372036854775808 ≤ left - (l.length : Int) := by omega
    have r2 : left - (l.length : Int) ≤ 9223372036854775807 := by omega
    go_enter Try.func22, Try.ntmps22
    go_wp2_with fail
    go_loopw [1, 5] (fun lf i wr => ∃ k : Nat, lf = .int .i64 (left - (l.length : Int) - (Cd.pre l k : Nat)) ∧ i = .int .i64 (k : Int) ∧ k ≤ l.length ∧ 0 ≤ left - (l.length : Int) - (Cd.pre l k : Nat) ∧ Later w wr) (fun _ i _ => l.length - (intOf i).toNat)
    case atStart => exact ⟨0, by rw [Cd.pre_zero]; simp, rfl, Nat.zero_le _, by rw [Cd.pre_zero]; simp; omega, Later.refl _⟩
    case round =>
      obtain ⟨k, rfl, rfl, hk, hp, lr⟩ := hrel
      by_cases hlt : k < l.length
      · obtain ⟨g, off, v0, v1, rfl, hg, c0, c1, c2, c3, r0, r1⟩ := Cd.elem (RdL.later lr h) k hlt
        have i1 : (k : Int) < (l.length : Int) := by omega
        have hE := szCd_any l[k] v0 v1 (left - (l.length : Int) - (Cd.pre l k : Nat)) wr r0 r1 hp (by omega) 
        have hps := Cd.pre_succ hlt
        have HP : Hid (Cd.pre l (k + 1) = Cd.pre l k + l[k].sz) := hps
        have hall := Cd.pre_le l (k + 1) (by omega)
        clear hps r0 r1
        generalize l[k].sz = S at *
        generalize l[k].frame = z_frame at *
        generalize l[k].params = z_params at *
        go_wp2_with fail
        refine hE.mono ?_
        rintro e w1 ⟨rfl, l1⟩
        by_cases q : ((S : Nat) : Int) ≤ left - (l.length : Int) - (Cd.pre l k : Nat)
        · rw [szR_pos q]
          have n1 : ¬ left - (l.length : Int) - (Cd.pre l k : Nat) - (S : Nat) < 0 := by omega
          go_wp2_with fail
          go_roundw
          case rel => exact ⟨k + 1, by rw [HP.out]; go_num, by go_num, by omega, by rw [HP.out]; omega, lr.trans l1⟩
          case measure => simp [intOf]; omega
        · rw [szR_neg q]
          go_wp2_with fail
          go_ret
          exact ⟨ret_int (by rw [szR_neg]; rw [HP.out] at hall; omega), lr.trans l1⟩
      · have i1 : ¬ (k : Int) < (l.length : Int) := by omega
        have i2 : decide ((k : Int) < (l.length : Int)) = false := decide_eq_false i1
        have hkk : k = l.length := by omega
        have hall := Cd.pre_all l
        subst hkk
        go_wp2_with fail
        go_ret
        exact ⟨ret_int (by rw [szR_pos (by omega)]; first | done | omega), lr⟩
  · have hn : left - (l.length : Int) < 0 := by omega
    have r1 : -9223372036854775808 ≤ left - (l.length : Int) := by omega
    have r2 : left - (l.length : Int) ≤ 9223372036854775807 := by omega
    have hge := Cd.szs_ge l
    go_enter Try.func22, Try.ntmps22
    go_wp2_with fail
    go_ret
    exact ⟨ret_int (by rw [szR_neg (by omega)]), Later.refl _⟩

set_option maxHeartbeats 1000000 in
theorem szIm_any (x : Im) (v0 v1 : Value) (left : Int) (w : World) (h0 : RdL w 1 v0 (Bs.dats x.structs)) (h1 : RdL w 4 v1 (Cd.dats x.codes)) (hl0 : 0 ≤ left) (hl1 : left ≤ 1048576) :
    Calls Try.prog 6 #[.agg #[v0, v1, .int .i64 x.main], .int .i64 left] w fun e w' => e = .returned (.int .i64 (szR left x.sz)) ∧ Later w w' := by
  have L0 := later1 w (.cells #[v0, v1, .int .i64 x.main] 25)
  have hsz : x.sz = Bs.szs x.structs + Cd.szs x.codes := by obtain ⟨structs, codes, main⟩ := x; rfl
  rw [hsz]
  obtain ⟨a0, p0, rfl, _⟩ := Bs.slice h0
  obtain ⟨a1, p1, rfl, _⟩ := Cd.slice h1
  clear hsz
  generalize x.main = z_main at *
  go_enter Try.func6, Try.ntmps6
  go_wp2_with fail
  refine (szBss_any _ _ (left) _ (RdL.later L0 h0) (by omega) (by omega)).mono ?_
  rintro e w1 ⟨rfl, l1⟩
  by_cases q0 : ((Bs.szs x.structs : Nat) : Int) ≤ left
  · rw [szR_pos q0]
    have n0 : ¬ left - ((Bs.szs x.structs : Nat) : Int) < 0 := by omega
    have bx1 : w1.cell? ⟨w.heap.size, 1, none⟩ = some (.slice a1 x.codes.length p1) := by rw [Below.cell (l1) (p := ⟨w.heap.size, 1, none⟩) (by simp)]; simp
    go_wp2_with fail
    refine (szCds_any _ _ (left - ((Bs.szs x.structs : Nat) : Int)) _ (RdL.later (L0.trans l1) h1) (by omega) (by omega)).mono ?_
    rintro e w2 ⟨rfl, l2⟩
    by_cases q1 : ((Cd.szs x.codes : Nat) : Int) ≤ left - ((Bs.szs x.structs : Nat) : Int)
    · rw [szR_pos q1]
      have n1 : ¬ left - ((Bs.szs x.structs : Nat) : Int) - ((Cd.szs x.codes : Nat) : Int) < 0 := by omega
      go_wp2_with fail
      go_ret
      exact ⟨ret_int (by rw [szR_pos (by omega)]; first | done | omega), ((L0.trans l1).trans l2)⟩
    · rw [szR_neg q1]
      go_wp2_with fail
      go_ret
      exact ⟨ret_int (by rw [szR_neg (by omega)]), ((L0.trans l1).trans l2)⟩
  · rw [szR_neg q0]
    go_wp2_with fail
    go_ret
    exact ⟨ret_int (by rw [szR_neg (by omega)]), (L0.trans l1)⟩

end Go.Proofs.Ytindomjaaklgjaa
