/- How much a tree takes: the laws' own functions sz. -/
import Derived.Test.YtbigjeejmacjcaaGreatDoorT2
import Derived.Deep.RegionWith
namespace Go.Proofs.YtbigjeejmacjcaaGreatDoor
open Go.RowKit

/-- What is left. -/
def szR (left : Int) (s : Nat) : Int := if (s : Int) ≤ left then left - s else -1
theorem szR_pos {left : Int} {s : Nat} (h : (s : Int) ≤ left) : szR left s = left - s := if_pos h
theorem szR_neg {left : Int} {s : Nat} (h : ¬ (s : Int) ≤ left) : szR left s = -1 := if_neg h

theorem szb_any (v : Value) (zs : List Int) (left : Int) (w : World) (h : RdB w v zs) (h0 : 0 ≤ left) (h1 : left ≤ 1048576) :
    Calls Tryz.prog 44 #[v, .int .i64 left] w fun e w' => e = .returned (.int .i64 (szR left zs.length)) ∧ w' = w := by
  obtain ⟨a, cap, rfl, hl⟩ := h.slice
  by_cases hc : (zs.length : Int) ≤ left
  · rw [szR_pos hc]
    have hn : ¬ left - (zs.length : Int) < 0 := by omega
    have r1 : -9223372036854775808 ≤ left - (zs.length : Int) := by omega
    have r2 : left - (zs.length : Int) ≤ 9223372036854775807 := by omega
    go_enter Tryz.func44, Tryz.ntmps44
    go_wp2
    go_ret
    exact ⟨rfl, rfl⟩
  · rw [szR_neg hc]
    have hn : left - (zs.length : Int) < 0 := by omega
    have r1 : -9223372036854775808 ≤ left - (zs.length : Int) := by omega
    have r2 : left - (zs.length : Int) ≤ 9223372036854775807 := by omega
    go_enter Tryz.func44, Tryz.ntmps44
    go_wp2
    go_ret
    exact ⟨rfl, rfl⟩

set_option maxHeartbeats 1000000 in
theorem szPa_any (x : Pa) (v0 : Value) (left : Int) (w : World) (h0 : RdN w v0 x.name) (hl0 : 0 ≤ left) (hl1 : left ≤ 1048576) :
    Calls Tryz.prog 70 #[.agg #[v0, .int .i64 x.tk, .int .i64 x.tn], .int .i64 left] w fun e w' => e = .returned (.int .i64 (szR left x.sz)) ∧ Later w w' := by
  have L0 := later1 w (.cells #[v0, .int .i64 x.tk, .int .i64 x.tn] 124)
  have hsz : x.sz = x.name.length := by obtain ⟨name, tk, tn⟩ := x; rfl
  rw [hsz]
  obtain ⟨a0, p0, rfl, _⟩ := h0.slice
  clear hsz
  generalize x.tk = z_tk at *
  generalize x.tn = z_tn at *
  go_enter Tryz.func70, Tryz.ntmps70
  go_wp2_with fail
  refine (szb_any _ _ (left) _ (h0.later L0).rd (by omega) (by omega)).mono ?_
  rintro e w1 ⟨rfl, hw1⟩
  obtain rfl := hw1.symm
  by_cases q0 : ((x.name.length : Nat) : Int) ≤ left
  · rw [szR_pos q0]
    have n0 : ¬ left - ((x.name.length : Nat) : Int) < 0 := by omega
    go_wp2_with fail
    go_ret
    exact ⟨ret_int (by rw [szR_pos (by omega)]; first | done | omega), L0⟩
  · rw [szR_neg q0]
    go_wp2_with fail
    go_ret
    exact ⟨ret_int (by rw [szR_neg (by omega)]), L0⟩

set_option maxHeartbeats 2000000 in
theorem szPas_any (v : Value) (l : List Pa) (left : Int) (w : World) (h : RdL w 3 v (Pa.dats l)) (hl0 : 0 ≤ left) (hl1 : left ≤ 1048576) :
    Calls Tryz.prog 45 #[v, .int .i64 left] w fun e w' => e = .returned (.int .i64 (szR left (Pa.szs l))) ∧ Later w w' := by
  obtain ⟨a, cap, rfl, hl⟩ := Pa.slice h
  by_cases hc : (l.length : Int) ≤ left
  · have hn : ¬ left - (l.length : Int) < 0 := by omega
    have r1 : -9223372036854775808 ≤ left - (l.length : Int) := by omega
    have r2 : left - (l.length : Int) ≤ 9223372036854775807 := by omega
    go_enter Tryz.func45, Tryz.ntmps45
    go_wp2_with fail
    go_loopw [1, 5] (fun lf i wr => ∃ k : Nat, lf = .int .i64 (left - (l.length : Int) - (Pa.pre l k : Nat)) ∧ i = .int .i64 (k : Int) ∧ k ≤ l.length ∧ 0 ≤ left - (l.length : Int) - (Pa.pre l k : Nat) ∧ Later w wr) (fun _ i _ => l.length - (intOf i).toNat)
    case atStart => exact ⟨0, by rw [Pa.pre_zero]; simp, rfl, Nat.zero_le _, by rw [Pa.pre_zero]; simp; omega, Later.refl _⟩
    case round =>
      obtain ⟨k, rfl, rfl, hk, hp, lr⟩ := hrel
      by_cases hlt : k < l.length
      · obtain ⟨g, off, v0, rfl, hg, c0, c1, c2, r0⟩ := Pa.elem (RdL.later lr h) k hlt
        have i1 : (k : Int) < (l.length : Int) := by omega
        have hE := szPa_any l[k] v0 (left - (l.length : Int) - (Pa.pre l k : Nat)) wr r0 hp (by omega) 
        have hps := Pa.pre_succ hlt
        have HP : Hid (Pa.pre l (k + 1) = Pa.pre l k + l[k].sz) := hps
        have hall := Pa.pre_le l (k + 1) (by omega)
        clear hps r0
        generalize l[k].sz = S at *
        generalize l[k].tk = z_tk at *
        generalize l[k].tn = z_tn at *
        go_wp2_with fail
        refine hE.mono ?_
        rintro e w1 ⟨rfl, l1⟩
        by_cases q : ((S : Nat) : Int) ≤ left - (l.length : Int) - (Pa.pre l k : Nat)
        · rw [szR_pos q]
          have n1 : ¬ left - (l.length : Int) - (Pa.pre l k : Nat) - (S : Nat) < 0 := by omega
          go_wp2_with fail
          go_roundw
          case rel => exact ⟨k + 1, by rw [HP.out]; go_num, by go_num, by omega, by rw [HP.out]; omega, lr.trans l1⟩
          case measure => simp [intOf]; omega
        · rw [szR_neg q]
          go_wp2_with fail
          go_ret
          exact ⟨ret_int (by rw [szR_neg]; rw [HP.out] at hall; omega), lr.trans l1⟩
      · have i1 : ¬ (k : Int) < (l.length : Int) := by omega
        have i2 : decide ((k : Int) < (l.length : Int)) = false := decide_eq_false i1
        have hkk : k = l.length := by omega
        have hall := Pa.pre_all l
        subst hkk
        go_wp2_with fail
        go_ret
        exact ⟨ret_int (by rw [szR_pos (by omega)]; first | done | omega), lr⟩
  · have hn : left - (l.length : Int) < 0 := by omega
    have r1 : -9223372036854775808 ≤ left - (l.length : Int) := by omega
    have r2 : left - (l.length : Int) ≤ 9223372036854775807 := by omega
    have hge := Pa.szs_ge l
    go_enter Tryz.func45, Tryz.ntmps45
    go_wp2_with fail
    go_ret
    exact ⟨ret_int (by rw [szR_neg (by omega)]), Later.refl _⟩

set_option maxHeartbeats 1000000 in
theorem szSc_any (x : Sc) (v0 v1 : Value) (left : Int) (w : World) (h0 : RdN w v0 x.name) (h1 : RdL w 3 v1 (Pa.dats x.fields)) (hl0 : 0 ≤ left) (hl1 : left ≤ 1048576) :
    Calls Tryz.prog 26 #[.agg #[v0, v1], .int .i64 left] w fun e w' => e = .returned (.int .i64 (szR left x.sz)) ∧ Later w w' := by
  have L0 := later1 w (.cells #[v0, v1] 67)
  have hsz : x.sz = x.name.length + Pa.szs x.fields := by obtain ⟨name, fields⟩ := x; rfl
  rw [hsz]
  obtain ⟨a0, p0, rfl, _⟩ := h0.slice
  obtain ⟨a1, p1, rfl, _⟩ := Pa.slice h1
  clear hsz
  go_enter Tryz.func26, Tryz.ntmps26
  go_wp2_with fail
  refine (szb_any _ _ (left) _ (h0.later L0).rd (by omega) (by omega)).mono ?_
  rintro e w1 ⟨rfl, hw1⟩
  obtain rfl := hw1.symm
  by_cases q0 : ((x.name.length : Nat) : Int) ≤ left
  · rw [szR_pos q0]
    have n0 : ¬ left - ((x.name.length : Nat) : Int) < 0 := by omega
    go_wp2_with fail
    refine (szPas_any _ _ (left - ((x.name.length : Nat) : Int)) _ (RdL.later L0 h1) (by omega) (by omega)).mono ?_
    rintro e w2 ⟨rfl, l2⟩
    by_cases q1 : ((Pa.szs x.fields : Nat) : Int) ≤ left - ((x.name.length : Nat) : Int)
    · rw [szR_pos q1]
      have n1 : ¬ left - ((x.name.length : Nat) : Int) - ((Pa.szs x.fields : Nat) : Int) < 0 := by omega
      go_wp2_with fail
      go_ret
      exact ⟨ret_int (by rw [szR_pos (by omega)]; first | done | omega), (L0.trans l2)⟩
    · rw [szR_neg q1]
      go_wp2_with fail
      go_ret
      exact ⟨ret_int (by rw [szR_neg (by omega)]), (L0.trans l2)⟩
  · rw [szR_neg q0]
    go_wp2_with fail
    go_ret
    exact ⟨ret_int (by rw [szR_neg (by omega)]), L0⟩

set_option maxHeartbeats 2000000 in
theorem szScs_any (v : Value) (l : List Sc) (left : Int) (w : World) (h : RdL w 2 v (Sc.dats l)) (hl0 : 0 ≤ left) (hl1 : left ≤ 1048576) :
    Calls Tryz.prog 13 #[v, .int .i64 left] w fun e w' => e = .returned (.int .i64 (szR left (Sc.szs l))) ∧ Later w w' := by
  obtain ⟨a, cap, rfl, hl⟩ := Sc.slice h
  by_cases hc : (l.length : Int) ≤ left
  · have hn : ¬ left - (l.length : Int) < 0 := by omega
    have r1 : -9223372036854775808 ≤ left - (l.length : Int) := by omega
    have r2 : left - (l.length : Int) ≤ 9223372036854775807 := by omega
    go_enter Tryz.func13, Tryz.ntmps13
    go_wp2_with fail
    go_loopw [1, 5] (fun lf i wr => ∃ k : Nat, lf = .int .i64 (left - (l.length : Int) - (Sc.pre l k : Nat)) ∧ i = .int .i64 (k : Int) ∧ k ≤ l.length ∧ 0 ≤ left - (l.length : Int) - (Sc.pre l k : Nat) ∧ Later w wr) (fun _ i _ => l.length - (intOf i).toNat)
    case atStart => exact ⟨0, by rw [Sc.pre_zero]; simp, rfl, Nat.zero_le _, by rw [Sc.pre_zero]; simp; omega, Later.refl _⟩
    case round =>
      obtain ⟨k, rfl, rfl, hk, hp, lr⟩ := hrel
      by_cases hlt : k < l.length
      · obtain ⟨g, off, v0, v1, rfl, hg, c0, c1, r0, r1⟩ := Sc.elem (RdL.later lr h) k hlt
        have i1 : (k : Int) < (l.length : Int) := by omega
        have hE := szSc_any l[k] v0 v1 (left - (l.length : Int) - (Sc.pre l k : Nat)) wr r0 r1 hp (by omega) 
        have hps := Sc.pre_succ hlt
        have HP : Hid (Sc.pre l (k + 1) = Sc.pre l k + l[k].sz) := hps
        have hall := Sc.pre_le l (k + 1) (by omega)
        clear hps r0 r1
        generalize l[k].sz = S at *
        go_wp2_with fail
        refine hE.mono ?_
        rintro e w1 ⟨rfl, l1⟩
        by_cases q : ((S : Nat) : Int) ≤ left - (l.length : Int) - (Sc.pre l k : Nat)
        · rw [szR_pos q]
          have n1 : ¬ left - (l.length : Int) - (Sc.pre l k : Nat) - (S : Nat) < 0 := by omega
          go_wp2_with fail
          go_roundw
          case rel => exact ⟨k + 1, by rw [HP.out]; go_num, by go_num, by omega, by rw [HP.out]; omega, lr.trans l1⟩
          case measure => simp [intOf]; omega
        · rw [szR_neg q]
          go_wp2_with fail
          go_ret
          exact ⟨ret_int (by rw [szR_neg]; rw [HP.out] at hall; omega), lr.trans l1⟩
      · have i1 : ¬ (k : Int) < (l.length : Int) := by omega
        have i2 : decide ((k : Int) < (l.length : Int)) = false := decide_eq_false i1
        have hkk : k = l.length := by omega
        have hall := Sc.pre_all l
        subst hkk
        go_wp2_with fail
        go_ret
        exact ⟨ret_int (by rw [szR_pos (by omega)]; first | done | omega), lr⟩
  · have hn : left - (l.length : Int) < 0 := by omega
    have r1 : -9223372036854775808 ≤ left - (l.length : Int) := by omega
    have r2 : left - (l.length : Int) ≤ 9223372036854775807 := by omega
    have hge := Sc.szs_ge l
    go_enter Tryz.func13, Tryz.ntmps13
    go_wp2_with fail
    go_ret
    exact ⟨ret_int (by rw [szR_neg (by omega)]), Later.refl _⟩

set_option maxHeartbeats 1000000 in
theorem szEx_any (x : Ex) (v0 v1 : Value) (left : Int) (w : World) (h0 : RdN w v0 x.name) (h1 : RdL w 6 v1 (Ex.dats x.kids)) (hl0 : 0 ≤ left) (hl1 : left ≤ 1048576) (ih : ∀ (v : Value) (l : List Ex) (left : Int) (w : World), RdL w 6 v (Ex.dats l) → Ex.szs l ≤ x.sz → 0 ≤ left → left ≤ 1048576 → Calls Tryz.prog 92 #[v, .int .i64 left] w fun e w' => e = .returned (.int .i64 (szR left (Ex.szs l))) ∧ Later w w') :
    Calls Tryz.prog 110 #[.agg #[.int .i64 x.kind, .int .i64 x.n, .int .i64 x.tk, .int .i64 x.tn, v0, v1], .int .i64 left] w fun e w' => e = .returned (.int .i64 (szR left x.sz)) ∧ Later w w' := by
  have L0 := later1 w (.cells #[.int .i64 x.kind, .int .i64 x.n, .int .i64 x.tk, .int .i64 x.tn, v0, v1] 160)
  have hsz : x.sz = x.name.length + Ex.szs x.kids := by obtain ⟨kind, n, tk, tn, name, kids⟩ := x; rfl
  rw [hsz]
  obtain ⟨a0, p0, rfl, _⟩ := h0.slice
  obtain ⟨a1, p1, rfl, _⟩ := Ex.slice h1
  have hs1 : Ex.szs x.kids ≤ x.sz := by rw [hsz]; omega
  clear hsz
  generalize x.kind = z_kind at *
  generalize x.n = z_n at *
  generalize x.tk = z_tk at *
  generalize x.tn = z_tn at *
  go_enter Tryz.func110, Tryz.ntmps110
  go_wp2_with fail
  refine (szb_any _ _ (left) _ (h0.later L0).rd (by omega) (by omega)).mono ?_
  rintro e w1 ⟨rfl, hw1⟩
  obtain rfl := hw1.symm
  by_cases q0 : ((x.name.length : Nat) : Int) ≤ left
  · rw [szR_pos q0]
    have n0 : ¬ left - ((x.name.length : Nat) : Int) < 0 := by omega
    go_wp2_with fail
    refine (ih _ _ (left - ((x.name.length : Nat) : Int)) _ (RdL.later L0 h1) hs1 (by omega) (by omega)).mono ?_
    rintro e w2 ⟨rfl, l2⟩
    by_cases q1 : ((Ex.szs x.kids : Nat) : Int) ≤ left - ((x.name.length : Nat) : Int)
    · rw [szR_pos q1]
      have n1 : ¬ left - ((x.name.length : Nat) : Int) - ((Ex.szs x.kids : Nat) : Int) < 0 := by omega
      go_wp2_with fail
      go_ret
      exact ⟨ret_int (by rw [szR_pos (by omega)]; first | done | omega), (L0.trans l2)⟩
    · rw [szR_neg q1]
      go_wp2_with fail
      go_ret
      exact ⟨ret_int (by rw [szR_neg (by omega)]), (L0.trans l2)⟩
  · rw [szR_neg q0]
    go_wp2_with fail
    go_ret
    exact ⟨ret_int (by rw [szR_neg (by omega)]), L0⟩

set_option maxHeartbeats 2000000 in
theorem szExs_all (N : Nat) : ∀ (v : Value) (l : List Ex) (left : Int) (w : World), Ex.szs l ≤ N → RdL w 6 v (Ex.dats l) → 0 ≤ left → left ≤ 1048576 →
    Calls Tryz.prog 92 #[v, .int .i64 left] w fun e w' => e = .returned (.int .i64 (szR left (Ex.szs l))) ∧ Later w w' := by
  induction N using Nat.strongRecOn with
  | _ N IH =>
  intro v l left w hN h hl0 hl1
  obtain ⟨a, cap, rfl, hl⟩ := Ex.slice h
  by_cases hc : (l.length : Int) ≤ left
  · have hn : ¬ left - (l.length : Int) < 0 := by omega
    have r1 : -9223372036854775808 ≤ left - (l.length : Int) := by omega
    have r2 : left - (l.length : Int) ≤ 9223372036854775807 := by omega
    go_enter Tryz.func92, Tryz.ntmps92
    go_wp2_with fail
    go_loopw [1, 5] (fun lf i wr => ∃ k : Nat, lf = .int .i64 (left - (l.length : Int) - (Ex.pre l k : Nat)) ∧ i = .int .i64 (k : Int) ∧ k ≤ l.length ∧ 0 ≤ left - (l.length : Int) - (Ex.pre l k : Nat) ∧ Later w wr) (fun _ i _ => l.length - (intOf i).toNat)
    case atStart => exact ⟨0, by rw [Ex.pre_zero]; simp, rfl, Nat.zero_le _, by rw [Ex.pre_zero]; simp; omega, Later.refl _⟩
    case round =>
      obtain ⟨k, rfl, rfl, hk, hp, lr⟩ := hrel
      by_cases hlt : k < l.length
      · obtain ⟨g, off, v0, v1, rfl, hg, c0, c1, c2, c3, c4, c5, r0, r1⟩ := Ex.elem (RdL.later lr h) k hlt
        have i1 : (k : Int) < (l.length : Int) := by omega
        have hE := szEx_any l[k] v0 v1 (left - (l.length : Int) - (Ex.pre l k : Nat)) wr r0 r1 hp (by omega) (fun v' l' left' w' h' hs' a b => IH (Ex.szs l') (by have := Ex.sz_at l k hlt; omega) v' l' left' w' (Nat.le_refl _) h' a b)
        have hps := Ex.pre_succ hlt
        have HP : Hid (Ex.pre l (k + 1) = Ex.pre l k + l[k].sz) := hps
        have hall := Ex.pre_le l (k + 1) (by omega)
        clear hps r0 r1
        generalize l[k].sz = S at *
        generalize l[k].kind = z_kind at *
        generalize l[k].n = z_n at *
        generalize l[k].tk = z_tk at *
        generalize l[k].tn = z_tn at *
        go_wp2_with fail
        refine hE.mono ?_
        rintro e w1 ⟨rfl, l1⟩
        by_cases q : ((S : Nat) : Int) ≤ left - (l.length : Int) - (Ex.pre l k : Nat)
        · rw [szR_pos q]
          have n1 : ¬ left - (l.length : Int) - (Ex.pre l k : Nat) - (S : Nat) < 0 := by omega
          go_wp2_with fail
          go_roundw
          case rel => exact ⟨k + 1, by rw [HP.out]; go_num, by go_num, by omega, by rw [HP.out]; omega, lr.trans l1⟩
          case measure => simp [intOf]; omega
        · rw [szR_neg q]
          go_wp2_with fail
          go_ret
          exact ⟨ret_int (by rw [szR_neg]; rw [HP.out] at hall; omega), lr.trans l1⟩
      · have i1 : ¬ (k : Int) < (l.length : Int) := by omega
        have i2 : decide ((k : Int) < (l.length : Int)) = false := decide_eq_false i1
        have hkk : k = l.length := by omega
        have hall := Ex.pre_all l
        subst hkk
        go_wp2_with fail
        go_ret
        exact ⟨ret_int (by rw [szR_pos (by omega)]; first | done | omega), lr⟩
  · have hn : left - (l.length : Int) < 0 := by omega
    have r1 : -9223372036854775808 ≤ left - (l.length : Int) := by omega
    have r2 : left - (l.length : Int) ≤ 9223372036854775807 := by omega
    have hge := Ex.szs_ge l
    go_enter Tryz.func92, Tryz.ntmps92
    go_wp2_with fail
    go_ret
    exact ⟨ret_int (by rw [szR_neg (by omega)]), Later.refl _⟩
theorem szExs_any (v : Value) (l : List Ex) (left : Int) (w : World) (h : RdL w 6 v (Ex.dats l)) (hl0 : 0 ≤ left) (hl1 : left ≤ 1048576) :
    Calls Tryz.prog 92 #[v, .int .i64 left] w fun e w' => e = .returned (.int .i64 (szR left (Ex.szs l))) ∧ Later w w' := szExs_all _ v l left w (Nat.le_refl _) h hl0 hl1

set_option maxHeartbeats 1000000 in
theorem szSt_any (x : St) (v0 v1 v2 v3 : Value) (left : Int) (w : World) (h0 : RdN w v0 x.name) (h1 : RdL w 6 v1 (Ex.dats x.kids)) (h2 : RdL w 8 v2 (St.dats x.body)) (h3 : RdL w 8 v3 (St.dats x.els)) (hl0 : 0 ≤ left) (hl1 : left ≤ 1048576) (ih : ∀ (v : Value) (l : List St) (left : Int) (w : World), RdL w 8 v (St.dats l) → St.szs l ≤ x.sz → 0 ≤ left → left ≤ 1048576 → Calls Tryz.prog 46 #[v, .int .i64 left] w fun e w' => e = .returned (.int .i64 (szR left (St.szs l))) ∧ Later w w') :
    Calls Tryz.prog 71 #[.agg #[.int .i64 x.kind, .int .i64 x.n, .int .i64 x.tk, .int .i64 x.tn, v0, v1, v2, v3], .int .i64 left] w fun e w' => e = .returned (.int .i64 (szR left x.sz)) ∧ Later w w' := by
  have L0 := later1 w (.cells #[.int .i64 x.kind, .int .i64 x.n, .int .i64 x.tk, .int .i64 x.tn, v0, v1, v2, v3] 128)
  have hsz : x.sz = x.name.length + Ex.szs x.kids + St.szs x.body + St.szs x.els := by obtain ⟨kind, n, tk, tn, name, kids, body, els⟩ := x; rfl
  rw [hsz]
  obtain ⟨a0, p0, rfl, _⟩ := h0.slice
  obtain ⟨a1, p1, rfl, _⟩ := Ex.slice h1
  obtain ⟨a2, p2, rfl, _⟩ := St.slice h2
  have hs2 : St.szs x.body ≤ x.sz := by rw [hsz]; omega
  obtain ⟨a3, p3, rfl, _⟩ := St.slice h3
  have hs3 : St.szs x.els ≤ x.sz := by rw [hsz]; omega
  clear hsz
  generalize x.kind = z_kind at *
  generalize x.n = z_n at *
  generalize x.tk = z_tk at *
  generalize x.tn = z_tn at *
  go_enter Tryz.func71, Tryz.ntmps71
  go_wp2_with fail
  refine (szb_any _ _ (left) _ (h0.later L0).rd (by omega) (by omega)).mono ?_
  rintro e w1 ⟨rfl, hw1⟩
  obtain rfl := hw1.symm
  by_cases q0 : ((x.name.length : Nat) : Int) ≤ left
  · rw [szR_pos q0]
    have n0 : ¬ left - ((x.name.length : Nat) : Int) < 0 := by omega
    go_wp2_with fail
    refine (szExs_any _ _ (left - ((x.name.length : Nat) : Int)) _ (RdL.later L0 h1) (by omega) (by omega)).mono ?_
    rintro e w2 ⟨rfl, l2⟩
    by_cases q1 : ((Ex.szs x.kids : Nat) : Int) ≤ left - ((x.name.length : Nat) : Int)
    · rw [szR_pos q1]
      have n1 : ¬ left - ((x.name.length : Nat) : Int) - ((Ex.szs x.kids : Nat) : Int) < 0 := by omega
      have bx2 : w2.cell? ⟨w.heap.size, 6, none⟩ = some (.slice a2 x.body.length p2) := by rw [Below.cell (l2) (p := ⟨w.heap.size, 6, none⟩) (by simp)]; simp
      go_wp2_with fail
      refine (ih _ _ (left - ((x.name.length : Nat) : Int) - ((Ex.szs x.kids : Nat) : Int)) _ (RdL.later (L0.trans l2) h2) hs2 (by omega) (by omega)).mono ?_
      rintro e w3 ⟨rfl, l3⟩
      by_cases q2 : ((St.szs x.body : Nat) : Int) ≤ left - ((x.name.length : Nat) : Int) - ((Ex.szs x.kids : Nat) : Int)
      · rw [szR_pos q2]
        have n2 : ¬ left - ((x.name.length : Nat) : Int) - ((Ex.szs x.kids : Nat) : Int) - ((St.szs x.body : Nat) : Int) < 0 := by omega
        have bx3 : w3.cell? ⟨w.heap.size, 7, none⟩ = some (.slice a3 x.els.length p3) := by rw [Below.cell ((l2).trans l3) (p := ⟨w.heap.size, 7, none⟩) (by simp)]; simp
        go_wp2_with fail
        refine (ih _ _ (left - ((x.name.length : Nat) : Int) - ((Ex.szs x.kids : Nat) : Int) - ((St.szs x.body : Nat) : Int)) _ (RdL.later ((L0.trans l2).trans l3) h3) hs3 (by omega) (by omega)).mono ?_
        rintro e w4 ⟨rfl, l4⟩
        by_cases q3 : ((St.szs x.els : Nat) : Int) ≤ left - ((x.name.length : Nat) : Int) - ((Ex.szs x.kids : Nat) : Int) - ((St.szs x.body : Nat) : Int)
        · rw [szR_pos q3]
          have n3 : ¬ left - ((x.name.length : Nat) : Int) - ((Ex.szs x.kids : Nat) : Int) - ((St.szs x.body : Nat) : Int) - ((St.szs x.els : Nat) : Int) < 0 := by omega
          go_wp2_with fail
          go_ret
          exact ⟨ret_int (by rw [szR_pos (by omega)]; first | done | omega), (((L0.trans l2).trans l3).trans l4)⟩
        · rw [szR_neg q3]
          go_wp2_with fail
          go_ret
          exact ⟨ret_int (by rw [szR_neg (by omega)]), (((L0.trans l2).trans l3).trans l4)⟩
      · rw [szR_neg q2]
        go_wp2_with fail
        go_ret
        exact ⟨ret_int (by rw [szR_neg (by omega)]), ((L0.trans l2).trans l3)⟩
    · rw [szR_neg q1]
      go_wp2_with fail
      go_ret
      exact ⟨ret_int (by rw [szR_neg (by omega)]), (L0.trans l2)⟩
  · rw [szR_neg q0]
    go_wp2_with fail
    go_ret
    exact ⟨ret_int (by rw [szR_neg (by omega)]), L0⟩

set_option maxHeartbeats 2000000 in
theorem szSts_all (N : Nat) : ∀ (v : Value) (l : List St) (left : Int) (w : World), St.szs l ≤ N → RdL w 8 v (St.dats l) → 0 ≤ left → left ≤ 1048576 →
    Calls Tryz.prog 46 #[v, .int .i64 left] w fun e w' => e = .returned (.int .i64 (szR left (St.szs l))) ∧ Later w w' := by
  induction N using Nat.strongRecOn with
  | _ N IH =>
  intro v l left w hN h hl0 hl1
  obtain ⟨a, cap, rfl, hl⟩ := St.slice h
  by_cases hc : (l.length : Int) ≤ left
  · have hn : ¬ left - (l.length : Int) < 0 := by omega
    have r1 : -9223372036854775808 ≤ left - (l.length : Int) := by omega
    have r2 : left - (l.length : Int) ≤ 9223372036854775807 := by omega
    go_enter Tryz.func46, Tryz.ntmps46
    go_wp2_with fail
    go_loopw [1, 5] (fun lf i wr => ∃ k : Nat, lf = .int .i64 (left - (l.length : Int) - (St.pre l k : Nat)) ∧ i = .int .i64 (k : Int) ∧ k ≤ l.length ∧ 0 ≤ left - (l.length : Int) - (St.pre l k : Nat) ∧ Later w wr) (fun _ i _ => l.length - (intOf i).toNat)
    case atStart => exact ⟨0, by rw [St.pre_zero]; simp, rfl, Nat.zero_le _, by rw [St.pre_zero]; simp; omega, Later.refl _⟩
    case round =>
      obtain ⟨k, rfl, rfl, hk, hp, lr⟩ := hrel
      by_cases hlt : k < l.length
      · obtain ⟨g, off, v0, v1, v2, v3, rfl, hg, c0, c1, c2, c3, c4, c5, c6, c7, r0, r1, r2, r3⟩ := St.elem (RdL.later lr h) k hlt
        have i1 : (k : Int) < (l.length : Int) := by omega
        have hE := szSt_any l[k] v0 v1 v2 v3 (left - (l.length : Int) - (St.pre l k : Nat)) wr r0 r1 r2 r3 hp (by omega) (fun v' l' left' w' h' hs' a b => IH (St.szs l') (by have := St.sz_at l k hlt; omega) v' l' left' w' (Nat.le_refl _) h' a b)
        have hps := St.pre_succ hlt
        have HP : Hid (St.pre l (k + 1) = St.pre l k + l[k].sz) := hps
        have hall := St.pre_le l (k + 1) (by omega)
        clear hps r0 r1 r2 r3
        generalize l[k].sz = S at *
        generalize l[k].kind = z_kind at *
        generalize l[k].n = z_n at *
        generalize l[k].tk = z_tk at *
        generalize l[k].tn = z_tn at *
        go_wp2_with fail
        refine hE.mono ?_
        rintro e w1 ⟨rfl, l1⟩
        by_cases q : ((S : Nat) : Int) ≤ left - (l.length : Int) - (St.pre l k : Nat)
        · rw [szR_pos q]
          have n1 : ¬ left - (l.length : Int) - (St.pre l k : Nat) - (S : Nat) < 0 := by omega
          go_wp2_with fail
          go_roundw
          case rel => exact ⟨k + 1, by rw [HP.out]; go_num, by go_num, by omega, by rw [HP.out]; omega, lr.trans l1⟩
          case measure => simp [intOf]; omega
        · rw [szR_neg q]
          go_wp2_with fail
          go_ret
          exact ⟨ret_int (by rw [szR_neg]; rw [HP.out] at hall; omega), lr.trans l1⟩
      · have i1 : ¬ (k : Int) < (l.length : Int) := by omega
        have i2 : decide ((k : Int) < (l.length : Int)) = false := decide_eq_false i1
        have hkk : k = l.length := by omega
        have hall := St.pre_all l
        subst hkk
        go_wp2_with fail
        go_ret
        exact ⟨ret_int (by rw [szR_pos (by omega)]; first | done | omega), lr⟩
  · have hn : left - (l.length : Int) < 0 := by omega
    have r1 : -9223372036854775808 ≤ left - (l.length : Int) := by omega
    have r2 : left - (l.length : Int) ≤ 9223372036854775807 := by omega
    have hge := St.szs_ge l
    go_enter Tryz.func46, Tryz.ntmps46
    go_wp2_with fail
    go_ret
    exact ⟨ret_int (by rw [szR_neg (by omega)]), Later.refl _⟩
theorem szSts_any (v : Value) (l : List St) (left : Int) (w : World) (h : RdL w 8 v (St.dats l)) (hl0 : 0 ≤ left) (hl1 : left ≤ 1048576) :
    Calls Tryz.prog 46 #[v, .int .i64 left] w fun e w' => e = .returned (.int .i64 (szR left (St.szs l))) ∧ Later w w' := szSts_all _ v l left w (Nat.le_refl _) h hl0 hl1

set_option maxHeartbeats 1000000 in
theorem szFu_any (x : Fu) (v0 v1 v2 : Value) (left : Int) (w : World) (h0 : RdN w v0 x.name) (h1 : RdL w 3 v1 (Pa.dats x.params)) (h2 : RdL w 8 v2 (St.dats x.body)) (hl0 : 0 ≤ left) (hl1 : left ≤ 1048576) :
    Calls Tryz.prog 27 #[.agg #[v0, v1, .int .i64 x.rk, .int .i64 x.rn, v2], .int .i64 left] w fun e w' => e = .returned (.int .i64 (szR left x.sz)) ∧ Later w w' := by
  have L0 := later1 w (.cells #[v0, v1, .int .i64 x.rk, .int .i64 x.rn, v2] 72)
  have hsz : x.sz = x.name.length + Pa.szs x.params + St.szs x.body := by obtain ⟨name, params, rk, rn, body⟩ := x; rfl
  rw [hsz]
  obtain ⟨a0, p0, rfl, _⟩ := h0.slice
  obtain ⟨a1, p1, rfl, _⟩ := Pa.slice h1
  obtain ⟨a2, p2, rfl, _⟩ := St.slice h2
  clear hsz
  generalize x.rk = z_rk at *
  generalize x.rn = z_rn at *
  go_enter Tryz.func27, Tryz.ntmps27
  go_wp2_with fail
  refine (szb_any _ _ (left) _ (h0.later L0).rd (by omega) (by omega)).mono ?_
  rintro e w1 ⟨rfl, hw1⟩
  obtain rfl := hw1.symm
  by_cases q0 : ((x.name.length : Nat) : Int) ≤ left
  · rw [szR_pos q0]
    have n0 : ¬ left - ((x.name.length : Nat) : Int) < 0 := by omega
    go_wp2_with fail
    refine (szPas_any _ _ (left - ((x.name.length : Nat) : Int)) _ (RdL.later L0 h1) (by omega) (by omega)).mono ?_
    rintro e w2 ⟨rfl, l2⟩
    by_cases q1 : ((Pa.szs x.params : Nat) : Int) ≤ left - ((x.name.length : Nat) : Int)
    · rw [szR_pos q1]
      have n1 : ¬ left - ((x.name.length : Nat) : Int) - ((Pa.szs x.params : Nat) : Int) < 0 := by omega
      have bx2 : w2.cell? ⟨w.heap.size, 4, none⟩ = some (.slice a2 x.body.length p2) := by rw [Below.cell (l2) (p := ⟨w.heap.size, 4, none⟩) (by simp)]; simp
      go_wp2_with fail
      refine (szSts_any _ _ (left - ((x.name.length : Nat) : Int) - ((Pa.szs x.params : Nat) : Int)) _ (RdL.later (L0.trans l2) h2) (by omega) (by omega)).mono ?_
      rintro e w3 ⟨rfl, l3⟩
      by_cases q2 : ((St.szs x.body : Nat) : Int) ≤ left - ((x.name.length : Nat) : Int) - ((Pa.szs x.params : Nat) : Int)
      · rw [szR_pos q2]
        have n2 : ¬ left - ((x.name.length : Nat) : Int) - ((Pa.szs x.params : Nat) : Int) - ((St.szs x.body : Nat) : Int) < 0 := by omega
        go_wp2_with fail
        go_ret
        exact ⟨ret_int (by rw [szR_pos (by omega)]; first | done | omega), ((L0.trans l2).trans l3)⟩
      · rw [szR_neg q2]
        go_wp2_with fail
        go_ret
        exact ⟨ret_int (by rw [szR_neg (by omega)]), ((L0.trans l2).trans l3)⟩
    · rw [szR_neg q1]
      go_wp2_with fail
      go_ret
      exact ⟨ret_int (by rw [szR_neg (by omega)]), (L0.trans l2)⟩
  · rw [szR_neg q0]
    go_wp2_with fail
    go_ret
    exact ⟨ret_int (by rw [szR_neg (by omega)]), L0⟩

set_option maxHeartbeats 2000000 in
theorem szFus_any (v : Value) (l : List Fu) (left : Int) (w : World) (h : RdL w 5 v (Fu.dats l)) (hl0 : 0 ≤ left) (hl1 : left ≤ 1048576) :
    Calls Tryz.prog 14 #[v, .int .i64 left] w fun e w' => e = .returned (.int .i64 (szR left (Fu.szs l))) ∧ Later w w' := by
  obtain ⟨a, cap, rfl, hl⟩ := Fu.slice h
  by_cases hc : (l.length : Int) ≤ left
  · have hn : ¬ left - (l.length : Int) < 0 := by omega
    have r1 : -9223372036854775808 ≤ left - (l.length : Int) := by omega
    have r2 : left - (l.length : Int) ≤ 9223372036854775807 := by omega
    go_enter Tryz.func14, Tryz.ntmps14
    go_wp2_with fail
    go_loopw [1, 5] (fun lf i wr => ∃ k : Nat, lf = .int .i64 (left - (l.length : Int) - (Fu.pre l k : Nat)) ∧ i = .int .i64 (k : Int) ∧ k ≤ l.length ∧ 0 ≤ left - (l.length : Int) - (Fu.pre l k : Nat) ∧ Later w wr) (fun _ i _ => l.length - (intOf i).toNat)
    case atStart => exact ⟨0, by rw [Fu.pre_zero]; simp, rfl, Nat.zero_le _, by rw [Fu.pre_zero]; simp; omega, Later.refl _⟩
    case round =>
      obtain ⟨k, rfl, rfl, hk, hp, lr⟩ := hrel
      by_cases hlt : k < l.length
      · obtain ⟨g, off, v0, v1, v2, rfl, hg, c0, c1, c2, c3, c4, r0, r1, r2⟩ := Fu.elem (RdL.later lr h) k hlt
        have i1 : (k : Int) < (l.length : Int) := by omega
        have hE := szFu_any l[k] v0 v1 v2 (left - (l.length : Int) - (Fu.pre l k : Nat)) wr r0 r1 r2 hp (by omega) 
        have hps := Fu.pre_succ hlt
        have HP : Hid (Fu.pre l (k + 1) = Fu.pre l k + l[k].sz) := hps
        have hall := Fu.pre_le l (k + 1) (by omega)
        clear hps r0 r1 r2
        generalize l[k].sz = S at *
        generalize l[k].rk = z_rk at *
        generalize l[k].rn = z_rn at *
        go_wp2_with fail
        refine hE.mono ?_
        rintro e w1 ⟨rfl, l1⟩
        by_cases q : ((S : Nat) : Int) ≤ left - (l.length : Int) - (Fu.pre l k : Nat)
        · rw [szR_pos q]
          have n1 : ¬ left - (l.length : Int) - (Fu.pre l k : Nat) - (S : Nat) < 0 := by omega
          go_wp2_with fail
          go_roundw
          case rel => exact ⟨k + 1, by rw [HP.out]; go_num, by go_num, by omega, by rw [HP.out]; omega, lr.trans l1⟩
          case measure => simp [intOf]; omega
        · rw [szR_neg q]
          go_wp2_with fail
          go_ret
          exact ⟨ret_int (by rw [szR_neg]; rw [HP.out] at hall; omega), lr.trans l1⟩
      · have i1 : ¬ (k : Int) < (l.length : Int) := by omega
        have i2 : decide ((k : Int) < (l.length : Int)) = false := decide_eq_false i1
        have hkk : k = l.length := by omega
        have hall := Fu.pre_all l
        subst hkk
        go_wp2_with fail
        go_ret
        exact ⟨ret_int (by rw [szR_pos (by omega)]; first | done | omega), lr⟩
  · have hn : left - (l.length : Int) < 0 := by omega
    have r1 : -9223372036854775808 ≤ left - (l.length : Int) := by omega
    have r2 : left - (l.length : Int) ≤ 9223372036854775807 := by omega
    have hge := Fu.szs_ge l
    go_enter Tryz.func14, Tryz.ntmps14
    go_wp2_with fail
    go_ret
    exact ⟨ret_int (by rw [szR_neg (by omega)]), Later.refl _⟩

set_option maxHeartbeats 1000000 in
theorem szSo_any (x : So) (v0 v1 : Value) (left : Int) (w : World) (h0 : RdL w 2 v0 (Sc.dats x.structs)) (h1 : RdL w 5 v1 (Fu.dats x.funcs)) (hl0 : 0 ≤ left) (hl1 : left ≤ 1048576) :
    Calls Tryz.prog 4 #[.agg #[v0, v1], .int .i64 left] w fun e w' => e = .returned (.int .i64 (szR left x.sz)) ∧ Later w w' := by
  have L0 := later1 w (.cells #[v0, v1] 25)
  have hsz : x.sz = Sc.szs x.structs + Fu.szs x.funcs := by obtain ⟨structs, funcs⟩ := x; rfl
  rw [hsz]
  obtain ⟨a0, p0, rfl, _⟩ := Sc.slice h0
  obtain ⟨a1, p1, rfl, _⟩ := Fu.slice h1
  clear hsz
  go_enter Tryz.func4, Tryz.ntmps4
  go_wp2_with fail
  refine (szScs_any _ _ (left) _ (RdL.later L0 h0) (by omega) (by omega)).mono ?_
  rintro e w1 ⟨rfl, l1⟩
  by_cases q0 : ((Sc.szs x.structs : Nat) : Int) ≤ left
  · rw [szR_pos q0]
    have n0 : ¬ left - ((Sc.szs x.structs : Nat) : Int) < 0 := by omega
    have bx1 : w1.cell? ⟨w.heap.size, 1, none⟩ = some (.slice a1 x.funcs.length p1) := by rw [Below.cell (l1) (p := ⟨w.heap.size, 1, none⟩) (by simp)]; simp
    go_wp2_with fail
    refine (szFus_any _ _ (left - ((Sc.szs x.structs : Nat) : Int)) _ (RdL.later (L0.trans l1) h1) (by omega) (by omega)).mono ?_
    rintro e w2 ⟨rfl, l2⟩
    by_cases q1 : ((Fu.szs x.funcs : Nat) : Int) ≤ left - ((Sc.szs x.structs : Nat) : Int)
    · rw [szR_pos q1]
      have n1 : ¬ left - ((Sc.szs x.structs : Nat) : Int) - ((Fu.szs x.funcs : Nat) : Int) < 0 := by omega
      go_wp2_with fail
      go_ret
      exact ⟨ret_int (by rw [szR_pos (by omega)]; first | done | omega), ((L0.trans l1).trans l2)⟩
    · rw [szR_neg q1]
      go_wp2_with fail
      go_ret
      exact ⟨ret_int (by rw [szR_neg (by omega)]), ((L0.trans l1).trans l2)⟩
  · rw [szR_neg q0]
    go_wp2_with fail
    go_ret
    exact ⟨ret_int (by rw [szR_neg (by omega)]), (L0.trans l1)⟩

end Go.Proofs.YtbigjeejmacjcaaGreatDoor
