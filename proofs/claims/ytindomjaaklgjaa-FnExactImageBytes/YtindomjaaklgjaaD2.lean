/- The walks over the functions that draw: numbers below a bound, picks, ints, bits. -/
import Derived.Test.YtindomjaaklgjaaD1
namespace Go.Proofs.Ytindomjaaklgjaa
open Go.RowKit

/-- The cursor stands, and since w0 only it has turned. -/
structure At (B K : Nat) (a : Option Addr) (len cap : Nat) (w0 w : World) : Prop where
  cur : Cur B K a len cap w
  only : OnlyK K w0 w
theorem At.start {B K : Nat} {a : Option Addr} {len cap : Nat} {w : World} (h : Cur B K a len cap w) : At B K a len cap w w := ⟨h, OnlyK.refl _ _⟩
theorem At.later {B K : Nat} {a : Option Addr} {len cap : Nat} {w0 w w' : World} (h : At B K a len cap w0 w) (hb : Later w w') : At B K a len cap w0 w' :=
  ⟨h.cur.later (Below.mono hb (by have := h.cur.hK; omega)), h.only.trans (OnlyK.later hb (Nat.le_refl _))⟩
theorem At.alloc {B K : Nat} {a : Option Addr} {len cap : Nat} {w0 w : World} (h : At B K a len cap w0 w) (o : Obj) : At B K a len cap w0 (w.alloc o) :=
  h.later ((Below.refl _ _).alloc (Nat.le_refl _) o)

/-- An int of 64 bits. -/
def InR (v : Int) : Prop := -9223372036854775808 ≤ v ∧ v ≤ 9223372036854775807

theorem bits_inR (op : BinOp) (x y : Int) : InR (bits op .i64 x y) := by
  have : ∀ n : Int, InR (IntKind.i64.wrap n) := fun n => by rw [IntKind.wrap_i64]; unfold InR; omega
  unfold bits
  exact this _

def goodInt : Value → Bool
  | .int .i64 n => decide (-9223372036854775808 ≤ n) && decide (n ≤ 9223372036854775807)
  | _ => false
theorem goodInt_of {v : Value} (h : goodInt v = true) : ∃ n : Int, v = .int .i64 n ∧ InR n := by
  unfold goodInt at h
  split at h
  · rename_i n
    rw [Bool.and_eq_true, decide_eq_true_eq, decide_eq_true_eq] at h
    exact ⟨n, rfl, h⟩
  · cases h
theorem goodInts_get {cs : Array Value} (h : cs.toList.all goodInt = true) {j : Nat} (hj : j < cs.size) : ∃ n : Int, cs[j]? = some (.int .i64 n) ∧ InR n := by
  have h1 : cs[j]? = some cs[j] := Array.getElem?_eq_getElem hj
  have h2 : goodInt cs[j] = true := List.all_eq_true.1 h _ (by simp)
  obtain ⟨n, e, hn⟩ := goodInt_of h2
  exact ⟨n, by rw [h1, e], hn⟩

end Go.Proofs.Ytindomjaaklgjaa
