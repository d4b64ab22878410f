/- LoadWord: the model's, and the walk of its exact law. -/
import Derived.Test.YtfmfkfijlfeimaaDoorM4
import Derived.Deep.RegionWith
import Derived.Deep.CutRange
namespace Go.Proofs.YtfmfkfijlfeimaaDoor
open Go.RowKit

/-- Is there such a word? -/
def okAt (zs : List Int) (at_ : Int) : Bool := decide (0 ≤ at_) && decide (at_ < (zs.length : Int))
def wordAt (zs : List Int) (at_ : Int) : Int := if okAt zs at_ then zs.getD at_.toNat 0 else 0
/-- What LoadWord answers. -/
def LoadC (f : Nat) : Prop := ∀ (v : Value) (zs : List Int) (at_ : Int) (w : World), Rd w v zs → Calls Tryd.prog f #[.agg #[v], .int .i64 at_] w fun e w' =>
  e = .returned (.tuple #[.int .i64 (wordAt zs at_), .bool (okAt zs at_)]) ∧ Later w w'

/-- What LoadWord answers where variable 0 holds 'ev'. -/
def LoadG (f : Nat) (ev : Value) : Prop := ∀ (v : Value) (zs : List Int) (at_ : Int) (w : World) (base : Nat), Box w 0 ev → w.ownsRow base 3 1 v zs.length (zs.map (Value.int .i64)) → InR at_ → Calls Tryd.prog f #[.agg #[v], .int .i64 at_] w fun e w' =>
  e = .returned (.tuple #[.int .i64 (wordAt zs at_), .bool (okAt zs at_)]) ∧ Later w w'

theorem okAt_cases (zs : List Int) (i : Int) : ((i < 0 ∨ (zs.length : Int) ≤ i) ∧ okAt zs i = false ∧ wordAt zs i = 0) ∨ (0 ≤ i ∧ i < (zs.length : Int) ∧ okAt zs i = true ∧ wordAt zs i = zs.getD i.toNat 0) := by
  unfold wordAt okAt
  by_cases h0 : 0 ≤ i
  · by_cases h1 : i < (zs.length : Int)
    · exact .inr ⟨h0, h1, by simp [h0, h1], by simp [h0, h1]⟩
    · exact .inl ⟨by omega, by simp [h1], by simp [h1]⟩
  · exact .inl ⟨by omega, by simp [h0], by simp [h0]⟩

theorem ret_load {a b : Int} {p q : Bool} (h : a = b) (k : p = q) : Ending.returned (.tuple #[.int .i64 a, .bool p]) = .returned (.tuple #[.int .i64 b, .bool q]) := by rw [h, k]

set_option maxHeartbeats 400000 in
theorem sload_any : LoadC 15 := by
  intro v zs i w h
  obtain ⟨a, cap, rfl, hl, hc⟩ := h
  rcases okAt_cases zs i with ⟨ho, e1, e2⟩ | ⟨h0, h1, e1, e2⟩
  · rw [e1, e2]
    clear e1 e2 hc
    rcases ho with h | h
    · go_enter Tryd.func15, Tryd.ntmps15
      go_wp2
      go_ret2
      exact ⟨rfl, later1 _ _⟩
    · have h' : ¬ i < 0 := by omega
      go_enter Tryd.func15, Tryd.ntmps15
      go_wp2
      go_ret2
      exact ⟨rfl, later1 _ _⟩
  · rw [e1, e2]
    clear e1 e2
    obtain ⟨g, off, rfl, hg, hv⟩ := hc i.toNat (by omega)
    generalize zs.getD i.toNat 0 = z at *
    clear hc
    have h0' : ¬ i < 0 := by omega
    have h1' : ¬ (zs.length : Int) ≤ i := by omega
    go_enter Tryd.func15, Tryd.ntmps15
    go_wp2
    go_ret2
    exact ⟨rfl, later1 _ _⟩

set_option maxHeartbeats 400000 in
theorem sz_any (v : Value) (zs : List Int) (w : World) (h : Rd w v zs) : Calls Tryd.prog 14 #[.agg #[v], .int .i64 1048576] w fun e w' =>
    e = .returned (.int .i64 (if zs.length ≤ 1048576 then 1048576 - (zs.length : Int) else -1)) ∧ Later w w' := by
  obtain ⟨a, cap, rfl, hl, hc⟩ := h
  clear hc
  by_cases hs : zs.length ≤ 1048576
  · rw [if_pos hs]
    have h1 : (zs.length : Int) ≤ 1048576 := by omega
    go_enter Tryd.func14, Tryd.ntmps14
    go_wp2
    go_ret
    exact ⟨rfl, later1 _ _⟩
  · rw [if_neg hs]
    have h1 : (1048576 : Int) < (zs.length : Int) := by omega
    go_enter Tryd.func14, Tryd.ntmps14
    go_wp2
    go_ret
    exact ⟨rfl, later1 _ _⟩

end Go.Proofs.YtfmfkfijlfeimaaDoor
