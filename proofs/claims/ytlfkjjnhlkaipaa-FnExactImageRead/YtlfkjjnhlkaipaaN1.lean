/- The reader of images by the program: take. -/
import Derived.Test.YtlfkjjnhlkaipaaH1
namespace Go.Proofs.Ytlfkjjnhlkaipaa
open Go.RowKit Go.Lib

set_option maxHeartbeats 1000000 in
theorem take_no (R : Nat) (a : Option Addr) (n cap : Nat) (e : Bool) (k : Int) (w : World) (h0 : w.cell? ⟨R, 0, none⟩ = some (.slice a n cap)) (h1 : w.cell? ⟨R, 1, none⟩ = some (.bool e)) (hf : w.frozen? ⟨R, 1, none⟩ = false) (hk : (n : Int) < k) :
    Calls Try.prog 45 #[.pointer (some ⟨R, 0, none⟩), .int .i64 k] w fun e w' => e = .returned (.slice none 0 0) ∧ w' = w.setCell ⟨R, 1, none⟩ (.bool true) := by
  go_enter Try.func45, Try.ntmps45
  go_wp2_with fail
  go_ret
  exact ⟨rfl, rfl⟩
/-- So many bytes off the front; where no room is left behind them, the rest's place is not moved. -/
def RestAt (R g off n cap k : Nat) (w w' : World) : Prop := ∃ o, w' = w.setCell ⟨R, 0, none⟩ (.slice (some ⟨g, o, none⟩) (n - k) (cap - k)) ∧ (k < cap → o = off + k)
set_option maxHeartbeats 1000000 in
theorem take_yes (R g off n cap : Nat) (k : Nat) (w : World) (h0 : w.cell? ⟨R, 0, none⟩ = some (.slice (some ⟨g, off, none⟩) n cap)) (hf : w.frozen? ⟨R, 0, none⟩ = false) (hk : k ≤ n) (hn : n ≤ cap) (hc : cap ≤ 1048576) :
    Calls Try.prog 45 #[.pointer (some ⟨R, 0, none⟩), .int .i64 (k : Int)] w fun e w' => e = .returned (.slice (some ⟨g, off, none⟩) k k) ∧ RestAt R g off n cap k w w' := by
  have i1 : ¬ (n : Int) < (k : Int) := by omega
  have HQ1 : Hid (cap - k = 0 → RestAt R g off n cap k w (w.setCell ⟨R, 0, none⟩ (.slice (some ⟨g, off, none⟩) (n - k) 0))) := fun h => ⟨off, by rw [h], fun _ => by omega⟩
  have HQ2 : Hid (RestAt R g off n cap k w (w.setCell ⟨R, 0, none⟩ (.slice (some ⟨g, off + k, none⟩) (n - k) (cap - k)))) := ⟨off + k, rfl, fun _ => rfl⟩
  generalize RestAt R g off n cap k w = Q at *
  by_cases hz : cap - k = 0
  · go_enter Try.func45, Try.ntmps45
    go_wp2_with fail
    go_ret
    exact ⟨rfl, HQ1.out hz⟩
  · go_enter Try.func45, Try.ntmps45
    go_wp2_with fail
    go_ret
    exact ⟨rfl, HQ2.out⟩
end Go.Proofs.Ytlfkjjnhlkaipaa
