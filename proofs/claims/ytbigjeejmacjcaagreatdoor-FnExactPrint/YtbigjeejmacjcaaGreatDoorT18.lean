/- What the model asks of an expression: plain facts, and l3kids. -/
import Derived.Test.YtbigjeejmacjcaaGreatDoorT12
namespace Go.Proofs.YtbigjeejmacjcaaGreatDoor
open Go.RowKit

def kidsN (k : Int) (len : Nat) : Int := if k = 0 ∨ k = 1 ∨ k = 2 ∨ k = 3 ∨ k = 4 ∨ k = 11 then 0 else if k = 5 ∨ k = 7 ∨ k = 9 ∨ k = 12 ∨ k = 13 then 1 else if k = 8 ∨ k = 10 then 2 else if k = 6 then (if (len : Int) ≤ 4 then (len : Int) else -1) else -1
def namedB (k : Int) : Bool := (k == 3) || (k == 6) || (k == 7)
def bad5 (k : Int) (name : List Int) : Bool := (namedB k != decide (0 < name.length)) || (namedB k && !(nameL name))
def bad7 (k tk tn : Int) : Bool := (k != 5) && !((tk == 0) && (tn == 0))
def nB (s k n tk tn : Int) : Bool := if k = 0 then true else if k = 1 then canon n else if k = 2 ∨ k = 4 then decide (0 ≤ n) && decide (n < s) else if k = 10 then decide (0 ≤ n) && decide (n ≤ 6) else if k = 5 then (n == 0) && decide (4 ≤ tk) && tyB tk tn s false else n == 0
theorem nameL_pos {name : List Int} (h : nameL name = true) : 0 < name.length := by
  unfold nameL wordL at h
  simp only [Bool.and_eq_true, decide_eq_true_eq] at h
  omega
theorem le6 (n : Int) : decide (n ≤ 6) = decide (n < 7) := by
  by_cases h : n ≤ 6
  · rw [decide_eq_true h, decide_eq_true (by omega)]
  · rw [decide_eq_false h, decide_eq_false (by omega)]
theorem and_swap (A B C : Bool) : (A && B && C) = (A && C && B) := by cases A <;> cases B <;> cases C <;> rfl
theorem kids_eq (a : Int) (len : Nat) : (a == (len : Int)) = (decide (a ≤ (len : Int)) && decide ((len : Int) ≤ a)) := by
  rw [Bool.eq_iff_iff, beq_iff_eq, Bool.and_eq_true, decide_eq_true_eq, decide_eq_true_eq]
  omega
theorem kids_no (len : Nat) : ((-1 : Int) == (len : Int)) = false := by rw [beq_eq_false_iff_ne]; omega
theorem name_no {name : List Int} : (!((false != decide (0 < name.length)) || (false && !(nameL name)))) = decide (name.length = 0) := by
  by_cases h : name.length = 0
  · rw [decide_eq_true h, decide_eq_false (by omega)]; rfl
  · rw [decide_eq_false h, decide_eq_true (by omega)]; rfl
theorem name_yes {name : List Int} : (!((true != decide (0 < name.length)) || (true && !(nameL name)))) = nameL name := by
  cases h : nameL name
  · simp
  · rw [decide_eq_true (nameL_pos h)]; rfl
theorem hereE_eq (s k n tk tn : Int) (name : List Int) (len : Nat) : hereE s k n tk tn name len = ((kidsN k len == (len : Int)) && !(bad5 k name) && !(bad7 k tk tn) && nB s k n tk tn) := by
  unfold hereE
  rcases formE_cases k with (rfl | rfl | rfl | rfl | rfl | rfl | rfl | rfl | rfl | rfl | rfl | rfl | rfl | rfl) | ⟨n0, n1, n2, n3, n4, n5, n6, n7, n8, n9, n10, n11, n12, n13⟩
  · have e5 : (!(bad5 0 name)) = decide (name.length = 0) := name_no
    rw [e5]
    have ek : (kidsN 0 len == (len : Int)) = (decide ((0 : Int) ≤ (len : Int)) && decide ((len : Int) ≤ 0)) := kids_eq 0 len
    rw [ek]
    show (decide ((0 : Int) ≤ (len : Int)) && decide ((len : Int) ≤ 0) && decide (name.length = 0) && true && ((tk == 0) && (tn == 0))) = (decide ((0 : Int) ≤ (len : Int)) && decide ((len : Int) ≤ 0) && decide (name.length = 0) && !(true && !((tk == 0) && (tn == 0))) && true)
    rw [Bool.true_and, Bool.not_not]
    exact and_swap _ _ _
  · have e5 : (!(bad5 1 name)) = decide (name.length = 0) := name_no
    rw [e5]
    have ek : (kidsN 1 len == (len : Int)) = (decide ((0 : Int) ≤ (len : Int)) && decide ((len : Int) ≤ 0)) := kids_eq 0 len
    rw [ek]
    show (decide ((0 : Int) ≤ (len : Int)) && decide ((len : Int) ≤ 0) && decide (name.length = 0) && canon n && ((tk == 0) && (tn == 0))) = (decide ((0 : Int) ≤ (len : Int)) && decide ((len : Int) ≤ 0) && decide (name.length = 0) && !(true && !((tk == 0) && (tn == 0))) && canon n)
    rw [Bool.true_and, Bool.not_not]
    exact and_swap _ _ _
  · have e5 : (!(bad5 2 name)) = decide (name.length = 0) := name_no
    rw [e5]
    have ek : (kidsN 2 len == (len : Int)) = (decide ((0 : Int) ≤ (len : Int)) && decide ((len : Int) ≤ 0)) := kids_eq 0 len
    rw [ek]
    show (decide ((0 : Int) ≤ (len : Int)) && decide ((len : Int) ≤ 0) && decide (name.length = 0) && (decide (0 ≤ n) && decide (n < s)) && ((tk == 0) && (tn == 0))) = (decide ((0 : Int) ≤ (len : Int)) && decide ((len : Int) ≤ 0) && decide (name.length = 0) && !(true && !((tk == 0) && (tn == 0))) && (decide (0 ≤ n) && decide (n < s)))
    rw [Bool.true_and, Bool.not_not]
    exact and_swap _ _ _
  · have e5 : (!(bad5 3 name)) = nameL name := name_yes
    rw [e5]
    have ek : (kidsN 3 len == (len : Int)) = (decide ((0 : Int) ≤ (len : Int)) && decide ((len : Int) ≤ 0)) := kids_eq 0 len
    rw [ek]
    show (decide ((0 : Int) ≤ (len : Int)) && decide ((len : Int) ≤ 0) && nameL name && (n == 0) && ((tk == 0) && (tn == 0))) = (decide ((0 : Int) ≤ (len : Int)) && decide ((len : Int) ≤ 0) && nameL name && !(true && !((tk == 0) && (tn == 0))) && (n == 0))
    rw [Bool.true_and, Bool.not_not]
    exact and_swap _ _ _
  · have e5 : (!(bad5 4 name)) = decide (name.length = 0) := name_no
    rw [e5]
    have ek : (kidsN 4 len == (len : Int)) = (decide ((0 : Int) ≤ (len : Int)) && decide ((len : Int) ≤ 0)) := kids_eq 0 len
    rw [ek]
    show (decide ((0 : Int) ≤ (len : Int)) && decide ((len : Int) ≤ 0) && decide (name.length = 0) && (decide (0 ≤ n) && decide (n < s)) && ((tk == 0) && (tn == 0))) = (decide ((0 : Int) ≤ (len : Int)) && decide ((len : Int) ≤ 0) && decide (name.length = 0) && !(true && !((tk == 0) && (tn == 0))) && (decide (0 ≤ n) && decide (n < s)))
    rw [Bool.true_and, Bool.not_not]
    exact and_swap _ _ _
  · have e5 : (!(bad5 5 name)) = decide (name.length = 0) := name_no
    rw [e5]
    have ek : (kidsN 5 len == (len : Int)) = (decide ((1 : Int) ≤ (len : Int)) && decide ((len : Int) ≤ 1)) := kids_eq 1 len
    rw [ek]
    show (decide ((1 : Int) ≤ (len : Int)) && decide ((len : Int) ≤ 1) && decide (name.length = 0) && (n == 0) && tylB tk tn s) = (decide ((1 : Int) ≤ (len : Int)) && decide ((len : Int) ≤ 1) && decide (name.length = 0) && true && ((n == 0) && decide (4 ≤ tk) && tyB tk tn s false))
    unfold tylB
    simp only [Bool.and_true, Bool.and_assoc]
  · have e5 : (!(bad5 6 name)) = nameL name := name_yes
    rw [e5]
    have ek : (kidsN 6 len == (len : Int)) = (decide ((0 : Int) ≤ (len : Int)) && decide ((len : Int) ≤ 4)) := by
      show ((if (len : Int) ≤ 4 then (len : Int) else -1) == (len : Int)) = _
      by_cases h : (len : Int) ≤ 4
      · rw [if_pos h, decide_eq_true h, decide_eq_true (show (0 : Int) ≤ (len : Int) by omega)]; simp
      · rw [if_neg h, decide_eq_false h, kids_no]; simp
    rw [ek]
    show (decide ((0 : Int) ≤ (len : Int)) && decide ((len : Int) ≤ 4) && nameL name && (n == 0) && ((tk == 0) && (tn == 0))) = (decide ((0 : Int) ≤ (len : Int)) && decide ((len : Int) ≤ 4) && nameL name && !(true && !((tk == 0) && (tn == 0))) && (n == 0))
    rw [Bool.true_and, Bool.not_not]
    exact and_swap _ _ _
  · have e5 : (!(bad5 7 name)) = nameL name := name_yes
    rw [e5]
    have ek : (kidsN 7 len == (len : Int)) = (decide ((1 : Int) ≤ (len : Int)) && decide ((len : Int) ≤ 1)) := kids_eq 1 len
    rw [ek]
    show (decide ((1 : Int) ≤ (len : Int)) && decide ((len : Int) ≤ 1) && nameL name && (n == 0) && ((tk == 0) && (tn == 0))) = (decide ((1 : Int) ≤ (len : Int)) && decide ((len : Int) ≤ 1) && nameL name && !(true && !((tk == 0) && (tn == 0))) && (n == 0))
    rw [Bool.true_and, Bool.not_not]
    exact and_swap _ _ _
  · have e5 : (!(bad5 8 name)) = decide (name.length = 0) := name_no
    rw [e5]
    have ek : (kidsN 8 len == (len : Int)) = (decide ((2 : Int) ≤ (len : Int)) && decide ((len : Int) ≤ 2)) := kids_eq 2 len
    rw [ek]
    show (decide ((2 : Int) ≤ (len : Int)) && decide ((len : Int) ≤ 2) && decide (name.length = 0) && (n == 0) && ((tk == 0) && (tn == 0))) = (decide ((2 : Int) ≤ (len : Int)) && decide ((len : Int) ≤ 2) && decide (name.length = 0) && !(true && !((tk == 0) && (tn == 0))) && (n == 0))
    rw [Bool.true_and, Bool.not_not]
    exact and_swap _ _ _
  · have e5 : (!(bad5 9 name)) = decide (name.length = 0) := name_no
    rw [e5]
    have ek : (kidsN 9 len == (len : Int)) = (decide ((1 : Int) ≤ (len : Int)) && decide ((len : Int) ≤ 1)) := kids_eq 1 len
    rw [ek]
    show (decide ((1 : Int) ≤ (len : Int)) && decide ((len : Int) ≤ 1) && decide (name.length = 0) && (n == 0) && ((tk == 0) && (tn == 0))) = (decide ((1 : Int) ≤ (len : Int)) && decide ((len : Int) ≤ 1) && decide (name.length = 0) && !(true && !((tk == 0) && (tn == 0))) && (n == 0))
    rw [Bool.true_and, Bool.not_not]
    exact and_swap _ _ _
  · have e5 : (!(bad5 10 name)) = decide (name.length = 0) := name_no
    rw [e5]
    have ek : (kidsN 10 len == (len : Int)) = (decide ((2 : Int) ≤ (len : Int)) && decide ((len : Int) ≤ 2)) := kids_eq 2 len
    rw [ek]
    show (decide ((2 : Int) ≤ (len : Int)) && decide ((len : Int) ≤ 2) && decide (name.length = 0) && (decide (0 ≤ n) && decide (n < 7)) && ((tk == 0) && (tn == 0))) = (decide ((2 : Int) ≤ (len : Int)) && decide ((len : Int) ≤ 2) && decide (name.length = 0) && !(true && !((tk == 0) && (tn == 0))) && (decide (0 ≤ n) && decide (n ≤ 6)))
    rw [le6]
    rw [Bool.true_and, Bool.not_not]
    exact and_swap _ _ _
  · have e5 : (!(bad5 11 name)) = decide (name.length = 0) := name_no
    rw [e5]
    have ek : (kidsN 11 len == (len : Int)) = (decide ((0 : Int) ≤ (len : Int)) && decide ((len : Int) ≤ 0)) := kids_eq 0 len
    rw [ek]
    show (decide ((0 : Int) ≤ (len : Int)) && decide ((len : Int) ≤ 0) && decide (name.length = 0) && (n == 0) && ((tk == 0) && (tn == 0))) = (decide ((0 : Int) ≤ (len : Int)) && decide ((len : Int) ≤ 0) && decide (name.length = 0) && !(true && !((tk == 0) && (tn == 0))) && (n == 0))
    rw [Bool.true_and, Bool.not_not]
    exact and_swap _ _ _
  · have e5 : (!(bad5 12 name)) = decide (name.length = 0) := name_no
    rw [e5]
    have ek : (kidsN 12 len == (len : Int)) = (decide ((1 : Int) ≤ (len : Int)) && decide ((len : Int) ≤ 1)) := kids_eq 1 len
    rw [ek]
    show (decide ((1 : Int) ≤ (len : Int)) && decide ((len : Int) ≤ 1) && decide (name.length = 0) && (n == 0) && ((tk == 0) && (tn == 0))) = (decide ((1 : Int) ≤ (len : Int)) && decide ((len : Int) ≤ 1) && decide (name.length = 0) && !(true && !((tk == 0) && (tn == 0))) && (n == 0))
    rw [Bool.true_and, Bool.not_not]
    exact and_swap _ _ _
  · have e5 : (!(bad5 13 name)) = decide (name.length = 0) := name_no
    rw [e5]
    have ek : (kidsN 13 len == (len : Int)) = (decide ((1 : Int) ≤ (len : Int)) && decide ((len : Int) ≤ 1)) := kids_eq 1 len
    rw [ek]
    show (decide ((1 : Int) ≤ (len : Int)) && decide ((len : Int) ≤ 1) && decide (name.length = 0) && (n == 0) && ((tk == 0) && (tn == 0))) = (decide ((1 : Int) ≤ (len : Int)) && decide ((len : Int) ≤ 1) && decide (name.length = 0) && !(true && !((tk == 0) && (tn == 0))) && (n == 0))
    rw [Bool.true_and, Bool.not_not]
    exact and_swap _ _ _
  · have e : formE k = none := by unfold formE; rw [if_neg n0, if_neg n1, if_neg n2, if_neg n3, if_neg n4, if_neg n5, if_neg n6, if_neg n7, if_neg n8, if_neg n9, if_neg n10, if_neg n11, if_neg n12, if_neg n13]
    have ek : kidsN k len = -1 := by unfold kidsN; rw [if_neg (by omega), if_neg (by omega), if_neg (by omega), if_neg (by omega)]
    rw [e, ek, kids_no]
    rfl

set_option maxRecDepth 20000 in
set_option maxHeartbeats 4000000 in
theorem kids_any (x : Ex) (v0 v1 : Value) (a1 : Option Addr) (p1 : Nat) (w : World) (hv : v1 = .slice a1 x.kids.length p1) : Calls Tryz.prog 111 #[.agg #[.int .i64 x.kind, .int .i64 x.n, .int .i64 x.tk, .int .i64 x.tn, v0, v1]] w fun e w' => e = .returned (.int .i64 (kidsN x.kind x.kids.length)) ∧ Later w w' := by
  subst hv
  generalize x.kind = k
  generalize x.n = n
  generalize x.tk = tk
  generalize x.tn = tn
  generalize x.kids.length = len
  rcases formE_cases k with (rfl | rfl | rfl | rfl | rfl | rfl | rfl | rfl | rfl | rfl | rfl | rfl | rfl | rfl) | ⟨n0, n1, n2, n3, n4, n5, n6, n7, n8, n9, n10, n11, n12, n13⟩
  · go_enter Tryz.func111, Tryz.ntmps111
    go_wp2_with fail
    go_ret
    exact ⟨rfl, later1 _ _⟩
  · go_enter Tryz.func111, Tryz.ntmps111
    go_wp2_with fail
    go_ret
    exact ⟨rfl, later1 _ _⟩
  · go_enter Tryz.func111, Tryz.ntmps111
    go_wp2_with fail
    go_ret
    exact ⟨rfl, later1 _ _⟩
  · go_enter Tryz.func111, Tryz.ntmps111
    go_wp2_with fail
    go_ret
    exact ⟨rfl, later1 _ _⟩
  · go_enter Tryz.func111, Tryz.ntmps111
    go_wp2_with fail
    go_ret
    exact ⟨rfl, later1 _ _⟩
  · go_enter Tryz.func111, Tryz.ntmps111
    go_wp2_with fail
    go_ret
    exact ⟨rfl, later1 _ _⟩
  · by_cases h : (len : Int) ≤ 4
    · have e : kidsN 6 len = (len : Int) := by show (if (len : Int) ≤ 4 then (len : Int) else -1) = _; rw [if_pos h]
      rw [e]
      go_enter Tryz.func111, Tryz.ntmps111
      go_wp2_with fail
      go_ret
      exact ⟨rfl, later1 _ _⟩
    · have e : kidsN 6 len = -1 := by show (if (len : Int) ≤ 4 then (len : Int) else -1) = _; rw [if_neg h]
      rw [e]
      go_enter Tryz.func111, Tryz.ntmps111
      go_wp2_with fail
      go_ret
      exact ⟨rfl, later1 _ _⟩
  · go_enter Tryz.func111, Tryz.ntmps111
    go_wp2_with fail
    go_ret
    exact ⟨rfl, later1 _ _⟩
  · go_enter Tryz.func111, Tryz.ntmps111
    go_wp2_with fail
    go_ret
    exact ⟨rfl, later1 _ _⟩
  · go_enter Tryz.func111, Tryz.ntmps111
    go_wp2_with fail
    go_ret
    exact ⟨rfl, later1 _ _⟩
  · go_enter Tryz.func111, Tryz.ntmps111
    go_wp2_with fail
    go_ret
    exact ⟨rfl, later1 _ _⟩
  · go_enter Tryz.func111, Tryz.ntmps111
    go_wp2_with fail
    go_ret
    exact ⟨rfl, later1 _ _⟩
  · go_enter Tryz.func111, Tryz.ntmps111
    go_wp2_with fail
    go_ret
    exact ⟨rfl, later1 _ _⟩
  · go_enter Tryz.func111, Tryz.ntmps111
    go_wp2_with fail
    go_ret
    exact ⟨rfl, later1 _ _⟩
  · have ek : kidsN k len = -1 := by unfold kidsN; rw [if_neg (by omega), if_neg (by omega), if_neg (by omega), if_neg (by omega)]
    rw [ek]
    have e0 := neb n0
    have e1 := neb n1
    have e2 := neb n2
    have e3 := neb n3
    have e4 := neb n4
    have e5 := neb n5
    have e6 := neb n6
    have e7 := neb n7
    have e8 := neb n8
    have e9 := neb n9
    have e10 := neb n10
    have e11 := neb n11
    have e12 := neb n12
    have e13 := neb n13
    clear ek n0 n1 n2 n3 n4 n5 n6 n7 n8 n9 n10 n11 n12 n13
    go_enter Tryz.func111, Tryz.ntmps111
    go_wp2_with fail
    go_ret
    exact ⟨rfl, later1 _ _⟩

end Go.Proofs.YtbigjeejmacjcaaGreatDoor
