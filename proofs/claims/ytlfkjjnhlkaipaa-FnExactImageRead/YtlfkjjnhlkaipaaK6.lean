/- Numbers as digits: l3digits, l3dec. -/
import Derived.Test.YtlfkjjnhlkaipaaK5
namespace Go.Proofs.Ytlfkjjnhlkaipaa
open Go.RowKit

def digF : Nat → Nat → List Int
  | 0, _ => []
  | f + 1, u => if u < 10 then [48 + (u : Int)] else digF f (u / 10) ++ [48 + ((u % 10 : Nat) : Int)]

theorem own_new (w : World) (z : Int) : (w.alloc (.cells #[.int .u8 z] 5)).ownsRow w.heap.size 5 1 (.slice (some ⟨w.heap.size, 0, none⟩) 1 1) 1 [.int .u8 z] :=
  ⟨rfl, .inr ⟨w.heap.size, 1, #[.int .u8 z], rfl, Nat.le_refl _, by show (w.heap.push _)[w.heap.size]? = _; simp, Nat.le_refl _, by unfold maxLen; omega, rfl, rfl⟩⟩
theorem later_ownb {w w' : World} {b : Nat} {v : Value} {n : Nat} {xs : List Value} (h : w.ownsRow b 5 1 v n xs) (hb : Later w w') : w'.ownsRow b 5 1 v n xs :=
  h.kept (row := none) ⟨hb.os, hb.tape, hb.output, hb.size, fun k hk _ => hb.block k hk⟩ (by cases h : v.ownBlock <;> simp)
theorem own_monob {w : World} {b B : Nat} {v : Value} {n : Nat} {xs : List Value} (h : w.ownsRow B 5 1 v n xs) (hb : b ≤ B) : w.ownsRow b 5 1 v n xs := by
  refine ⟨h.1, ?_⟩
  rcases h.2 with h | ⟨g, cap, cur, h1, h2, h3⟩
  · exact .inl h
  · exact .inr ⟨g, cap, cur, h1, Nat.le_trans hb h2, h3⟩
theorem own_lt_b {w : World} {base n : Nat} {v : Value} {xs : List Value} (h : w.ownsRow base 5 1 v n xs) : ∀ g, v.ownBlock = some g → base ≤ g := fun g hg => (h.lt g hg).1
theorem Later.trans' {w w1 w2 : World} {v : Value} (h : Later w w1) (g : w1.grownBy w2 v.ownBlock) (hb : ∀ g, v.ownBlock = some g → w.heap.size ≤ g) : Later w w2 :=
  Below.grown h g h.size hb
theorem new_oneb (w : World) (z : Int) : ∀ j u, [Value.int .u8 z][j]? = some u → (w.alloc (.cells #[.int .u8 z] 5)).cell? ((⟨w.heap.size, 0, none⟩ : Addr).add j) = some u := by
  intro j u h
  match j with
  | 0 =>
    have : Value.int .u8 z = u := by simpa using h
    rw [← this, Addr.add_zero']
    simp
  | j + 1 => simp at h
theorem digF_len (k u : Nat) : (digF k u).length ≤ k := by
  induction k generalizing u with
  | zero => simp [digF]
  | succ k ih =>
    unfold digF
    split
    · simp
    · have := ih (u / 10); simp; omega
theorem wrap8 {z : Int} (h0 : 0 ≤ z) (h1 : z ≤ 255) : IntKind.u8.wrap z = z := by
  rw [IntKind.wrap_u8]; omega

/-- A number in decimal. -/
def decL (n : Int) : List Int := if n < 0 then 45 :: digF 20 (-n).toNat else digF 20 n.toNat
theorem digF_pos (k u : Nat) : 0 < (digF (k + 1) u).length := by
  unfold digF
  split <;> simp

end Go.Proofs.Ytlfkjjnhlkaipaa
