/- What the model asks of a statement: plain facts; l3left. -/
import Derived.Test.YtbigjeejmacjcaaGreatDoorT13
import Derived.Test.YtbigjeejmacjcaaGreatDoorT18
namespace Go.Proofs.YtbigjeejmacjcaaGreatDoor
open Go.RowKit

def kidsS (k : Int) (len : Nat) : Int := if k = 0 then 0 else if k = 1 then 2 else if k = 4 then (if (len : Int) ≤ 1 then (len : Int) else -1) else if k = 2 ∨ k = 3 ∨ k = 5 ∨ k = 6 ∨ k = 7 then 1 else -1
def bodyS (k : Int) : Bool := (k == 2) || (k == 3)
def otherS (k : Int) : Bool := k == 2
def nameS (s k tk tn : Int) (name : List Int) : Bool := if k = 0 then nameL name && tyB tk tn s false else decide (name.length = 0) && ((tk == 0) && (tn == 0))
theorem shuffle (A N Z T B O H : Bool) : ((A && N && Z && T) && B && O && H) = (Z && A && B && O && (N && T) && H) := by cases A <;> cases N <;> cases Z <;> cases T <;> cases B <;> cases O <;> cases H <;> rfl
theorem hereS_eq (s k n tk tn : Int) (name : List Int) (ks : List Ex) (bl el : Nat) : hereS s k n tk tn name ks bl el = ((n == 0) && (kidsS k ks.length == (ks.length : Int)) && (bodyS k || decide (bl = 0)) && (otherS k || decide (el = 0)) && nameS s k tk tn name && headB k ks) := by
  unfold hereS
  rcases formS_cases k with (rfl | rfl | rfl | rfl | rfl | rfl | rfl | rfl) | ⟨n0, n1, n2, n3, n4, n5, n6, n7⟩
  · have ek : (kidsS 0 ks.length == (ks.length : Int)) = (decide ((0 : Int) ≤ (ks.length : Int)) && decide ((ks.length : Int) ≤ 0)) := kids_eq 0 ks.length
    rw [ek]
    show ((decide ((0 : Int) ≤ (ks.length : Int)) && decide ((ks.length : Int) ≤ 0) && nameL name && (n == 0) && tyB tk tn s false) && (false || decide (bl = 0)) && (false || decide (el = 0)) && headB 0 ks) = ((n == 0) && (decide ((0 : Int) ≤ (ks.length : Int)) && decide ((ks.length : Int) ≤ 0)) && (false || decide (bl = 0)) && (false || decide (el = 0)) && (nameL name && tyB tk tn s false) && headB 0 ks)
    exact shuffle _ _ _ _ _ _ _
  · have ek : (kidsS 1 ks.length == (ks.length : Int)) = (decide ((2 : Int) ≤ (ks.length : Int)) && decide ((ks.length : Int) ≤ 2)) := kids_eq 2 ks.length
    rw [ek]
    show ((decide ((2 : Int) ≤ (ks.length : Int)) && decide ((ks.length : Int) ≤ 2) && decide (name.length = 0) && (n == 0) && ((tk == 0) && (tn == 0))) && (false || decide (bl = 0)) && (false || decide (el = 0)) && headB 1 ks) = ((n == 0) && (decide ((2 : Int) ≤ (ks.length : Int)) && decide ((ks.length : Int) ≤ 2)) && (false || decide (bl = 0)) && (false || decide (el = 0)) && (decide (name.length = 0) && ((tk == 0) && (tn == 0))) && headB 1 ks)
    exact shuffle _ _ _ _ _ _ _
  · have ek : (kidsS 2 ks.length == (ks.length : Int)) = (decide ((1 : Int) ≤ (ks.length : Int)) && decide ((ks.length : Int) ≤ 1)) := kids_eq 1 ks.length
    rw [ek]
    show ((decide ((1 : Int) ≤ (ks.length : Int)) && decide ((ks.length : Int) ≤ 1) && decide (name.length = 0) && (n == 0) && ((tk == 0) && (tn == 0))) && (true || decide (bl = 0)) && (true || decide (el = 0)) && headB 2 ks) = ((n == 0) && (decide ((1 : Int) ≤ (ks.length : Int)) && decide ((ks.length : Int) ≤ 1)) && (true || decide (bl = 0)) && (true || decide (el = 0)) && (decide (name.length = 0) && ((tk == 0) && (tn == 0))) && headB 2 ks)
    exact shuffle _ _ _ _ _ _ _
  · have ek : (kidsS 3 ks.length == (ks.length : Int)) = (decide ((1 : Int) ≤ (ks.length : Int)) && decide ((ks.length : Int) ≤ 1)) := kids_eq 1 ks.length
    rw [ek]
    show ((decide ((1 : Int) ≤ (ks.length : Int)) && decide ((ks.length : Int) ≤ 1) && decide (name.length = 0) && (n == 0) && ((tk == 0) && (tn == 0))) && (true || decide (bl = 0)) && (false || decide (el = 0)) && headB 3 ks) = ((n == 0) && (decide ((1 : Int) ≤ (ks.length : Int)) && decide ((ks.length : Int) ≤ 1)) && (true || decide (bl = 0)) && (false || decide (el = 0)) && (decide (name.length = 0) && ((tk == 0) && (tn == 0))) && headB 3 ks)
    exact shuffle _ _ _ _ _ _ _
  · have ek : (kidsS 4 ks.length == (ks.length : Int)) = (decide ((0 : Int) ≤ (ks.length : Int)) && decide ((ks.length : Int) ≤ 1)) := by
      show ((if (ks.length : Int) ≤ 1 then (ks.length : Int) else -1) == (ks.length : Int)) = _
      by_cases h : (ks.length : Int) ≤ 1
      · rw [if_pos h, decide_eq_true h, decide_eq_true (show (0 : Int) ≤ (ks.length : Int) by omega)]; simp
      · rw [if_neg h, decide_eq_false h, kids_no]; simp
    rw [ek]
    show ((decide ((0 : Int) ≤ (ks.length : Int)) && decide ((ks.length : Int) ≤ 1) && decide (name.length = 0) && (n == 0) && ((tk == 0) && (tn == 0))) && (false || decide (bl = 0)) && (false || decide (el = 0)) && headB 4 ks) = ((n == 0) && (decide ((0 : Int) ≤ (ks.length : Int)) && decide ((ks.length : Int) ≤ 1)) && (false || decide (bl = 0)) && (false || decide (el = 0)) && (decide (name.length = 0) && ((tk == 0) && (tn == 0))) && headB 4 ks)
    exact shuffle _ _ _ _ _ _ _
  · have ek : (kidsS 5 ks.length == (ks.length : Int)) = (decide ((1 : Int) ≤ (ks.length : Int)) && decide ((ks.length : Int) ≤ 1)) := kids_eq 1 ks.length
    rw [ek]
    show ((decide ((1 : Int) ≤ (ks.length : Int)) && decide ((ks.length : Int) ≤ 1) && decide (name.length = 0) && (n == 0) && ((tk == 0) && (tn == 0))) && (false || decide (bl = 0)) && (false || decide (el = 0)) && headB 5 ks) = ((n == 0) && (decide ((1 : Int) ≤ (ks.length : Int)) && decide ((ks.length : Int) ≤ 1)) && (false || decide (bl = 0)) && (false || decide (el = 0)) && (decide (name.length = 0) && ((tk == 0) && (tn == 0))) && headB 5 ks)
    exact shuffle _ _ _ _ _ _ _
  · have ek : (kidsS 6 ks.length == (ks.length : Int)) = (decide ((1 : Int) ≤ (ks.length : Int)) && decide ((ks.length : Int) ≤ 1)) := kids_eq 1 ks.length
    rw [ek]
    show ((decide ((1 : Int) ≤ (ks.length : Int)) && decide ((ks.length : Int) ≤ 1) && decide (name.length = 0) && (n == 0) && ((tk == 0) && (tn == 0))) && (false || decide (bl = 0)) && (false || decide (el = 0)) && headB 6 ks) = ((n == 0) && (decide ((1 : Int) ≤ (ks.length : Int)) && decide ((ks.length : Int) ≤ 1)) && (false || decide (bl = 0)) && (false || decide (el = 0)) && (decide (name.length = 0) && ((tk == 0) && (tn == 0))) && headB 6 ks)
    exact shuffle _ _ _ _ _ _ _
  · have ek : (kidsS 7 ks.length == (ks.length : Int)) = (decide ((1 : Int) ≤ (ks.length : Int)) && decide ((ks.length : Int) ≤ 1)) := kids_eq 1 ks.length
    rw [ek]
    show ((decide ((1 : Int) ≤ (ks.length : Int)) && decide ((ks.length : Int) ≤ 1) && decide (name.length = 0) && (n == 0) && ((tk == 0) && (tn == 0))) && (false || decide (bl = 0)) && (false || decide (el = 0)) && headB 7 ks) = ((n == 0) && (decide ((1 : Int) ≤ (ks.length : Int)) && decide ((ks.length : Int) ≤ 1)) && (false || decide (bl = 0)) && (false || decide (el = 0)) && (decide (name.length = 0) && ((tk == 0) && (tn == 0))) && headB 7 ks)
    exact shuffle _ _ _ _ _ _ _
  · have e : formS k = none := by unfold formS; rw [if_neg n0, if_neg n1, if_neg n2, if_neg n3, if_neg n4, if_neg n5, if_neg n6, if_neg n7]
    have ek : kidsS k ks.length = -1 := by unfold kidsS; rw [if_neg n0, if_neg n1, if_neg n4, if_neg (by omega)]
    rw [e, ek, kids_no]
    simp
set_option maxHeartbeats 1000000 in
theorem sleft_any (k n tk tn : Int) (v0 v1 : Value) (w : World) : Calls Tryz.prog 95 #[.agg #[.int .i64 k, .int .i64 n, .int .i64 tk, .int .i64 tn, v0, v1]] w fun e w' => e = .returned (.bool (leftB k)) ∧ Later w w' := by
  unfold leftB
  cases h3 : k == 3
  · cases h7 : k == 7
    all_goals
      go_enter Tryz.func95, Tryz.ntmps95
      go_wp2_with fail
      go_ret
      exact ⟨by first | rfl | (simp; done), later1 _ _⟩
  · go_enter Tryz.func95, Tryz.ntmps95
    go_wp2_with fail
    go_ret
    exact ⟨rfl, later1 _ _⟩

end Go.Proofs.YtbigjeejmacjcaaGreatDoor
