/- How much a tree takes: the laws' own functions sz. -/
import Derived.Test.YtlfkjjnhlkaipaaJ2
import Derived.Deep.RegionWith
namespace Go.Proofs.Ytlfkjjnhlkaipaa
open Go.RowKit

/-- What is left. -/
def szR (left : Int) (s : Nat) : Int := if (s : Int) ≤ left then left - s else -1
theorem szR_pos {left : Int} {s : Nat} (h : (s : Int) ≤ left) : szR left s = left - s := if_pos h
theorem szR_neg {left : Int} {s : Nat} (h : ¬ (s : Int) ≤ left) : szR left s = -1 := if_neg h

theorem szIns_any (v : Value) (l : List In) (left : Int) (w : World) (h : RdL w 1 v (In.dats l)) (h0 : 0 ≤ left) (h1 : left ≤ 1048576) :
    Calls Try.prog 36 #[v, .int .i64 left] w fun e w' => e = .returned (.int .i64 (szR left (In.szs l))) ∧ Later w w' := by
  unfold In.szs
  obtain ⟨a, cap, rfl, hl⟩ := In.slice h
  by_cases hc : (l.length : Int) ≤ left
  · rw [szR_pos hc]
    have hn : ¬ left - (l.length : Int) < 0 := by omega
    have r1 : -9223372036854775808 ≤ left - (l.length : Int) := by omega
    have r2 : left - (l.length : Int) ≤ 9223372036854775807 := by omega
    go_enter Try.func36, Try.ntmps36
    go_wp2
    go_ret
    exact ⟨rfl, Later.refl _⟩
  · rw [szR_neg hc]
    have hn : left - (l.length : Int) < 0 := by omega
    have r1 : -9223372036854775808 ≤ left - (l.length : Int) := by omega
    have r2 : left - (l.length : Int) ≤ 9223372036854775807 := by omega
    go_enter Try.func36, Try.ntmps36
    go_wp2
    go_ret
    exact ⟨rfl, Later.refl _⟩

end Go.Proofs.Ytlfkjjnhlkaipaa
