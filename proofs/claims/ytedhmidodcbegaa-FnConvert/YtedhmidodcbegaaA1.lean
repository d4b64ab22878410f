/- Sums, products and orders of floats: plain facts. -/
import Derived.Test.YtedhmidodcbegaaL1
namespace Go.Proofs.Ytedhmidodcbegaa
open Ieee

theorem sum_comm (a b : Datum) : a.sum b = b.sum a := by
  cases a <;> cases b <;> try rfl
  · rename_i s m i t n j
    simp only [Datum.sum]
    rw [Int.min_comm i j, Bool.and_comm s t, Int.add_comm (signed s m _)]
  · rename_i s t
    cases s <;> cases t <;> rfl
theorem product_comm (a b : Datum) : a.product b = b.product a := by
  cases a <;> cases b <;> try rfl
  · rename_i s m i t n j
    simp only [Datum.product]
    rw [Bool.xor_comm s t, Nat.mul_comm m n, Int.add_comm i j]
  · rename_i s t
    cases s <;> cases t <;> rfl
theorem order_swap (a b : Datum) : b.order a = (a.order b).map Ordering.swap := by
  cases a <;> cases b <;> try rfl
  · rename_i s m i t n j
    simp only [Datum.order, Option.map_some]
    rw [Int.min_comm j i]
    generalize signed s m _ = u
    generalize signed t n _ = v
    rcases Int.lt_trichotomy u v with h | h | h
    · rw [Int.compare_eq_lt.2 h, Int.compare_eq_gt.2 h]; rfl
    · subst h; rw [Int.compare_eq_eq.2 rfl]; rfl
    · rw [Int.compare_eq_gt.2 h, Int.compare_eq_lt.2 h]; rfl
  · rename_i s m i t
    cases t <;> rfl
  · rename_i s t n j
    cases s <;> rfl
  · rename_i s t
    cases s <;> cases t <;> rfl
theorem order_some {a b : Datum} (ha : ∀ s f, a ≠ .nan s f) (hb : ∀ s f, b ≠ .nan s f) : ∃ o, a.order b = some o := by
  cases a
  · cases b
    · exact ⟨_, rfl⟩
    · exact ⟨_, rfl⟩
    · exact absurd rfl (hb _ _)
  · cases b
    · exact ⟨_, rfl⟩
    · exact ⟨_, rfl⟩
    · exact absurd rfl (hb _ _)
  · exact absurd rfl (ha _ _)

theorem read_not_nan {x : Nat} (h : nanB x = false) : ∀ s f, double.read x ≠ .nan s f := by
  intro s f e
  have : nanB x = true := by
    unfold nanB
    rw [or_nan_l e]; rfl
  rw [h] at this; cases this

theorem ord_cases {x y : Nat} (hx : nanB x = false) (hy : nanB y = false) :
    ∃ o, FloatKind.f64.format.order x y = some o ∧ FloatKind.f64.format.order y x = some o.swap := by
  obtain ⟨o, ho⟩ := order_some (read_not_nan hx) (read_not_nan hy)
  refine ⟨o, ho, ?_⟩
  show Datum.order (double.read y) (double.read x) = _
  rw [order_swap, ho]; rfl

theorem add_comm0 (x y : Nat) : arOut 0 x y = arOut 0 y x := by
  show arZ .add x y = arZ .add y x
  unfold arZ
  have : floatBits .add .f64 x y = floatBits .add .f64 y x := by
    show Option.map _ (Datum.sum (double.read x) (double.read y)) = Option.map _ (Datum.sum (double.read y) (double.read x))
    rw [sum_comm]
  rw [this]
theorem mul_comm2 (x y : Nat) : arOut 2 x y = arOut 2 y x := by
  show arZ .mul x y = arZ .mul y x
  unfold arZ
  have : floatBits .mul .f64 x y = floatBits .mul .f64 y x := by
    show Option.map _ (Datum.product (double.read x) (double.read y)) = Option.map _ (Datum.product (double.read y) (double.read x))
    rw [product_comm]
  rw [this]

theorem read_flip {y : Nat} (hy : y < 18446744073709551616) : double.read (y ^^^ 2 ^ 63) = (double.read y).opposite := by
  have key : ∀ T : Nat, T < 9223372036854775808 → double.read (T + 9223372036854775808) = (double.read T).opposite ∧ double.read T = (double.read (T + 9223372036854775808)).opposite := by
    intro T hT
    have a1 : (T + 9223372036854775808) % 9223372036854775808 = T := by omega
    have a2 : (T + 9223372036854775808) / 9223372036854775808 % 2 = 1 := by omega
    have a3 : T % 9223372036854775808 = T := by omega
    have a4 : T / 9223372036854775808 % 2 = 0 := by omega
    rw [read_eq (T + 9223372036854775808), read_eq T, a1, a2, a3, a4]
    split
    · exact ⟨rfl, rfl⟩
    · split
      · exact ⟨rfl, rfl⟩
      · split
        · exact ⟨rfl, rfl⟩
        · exact ⟨rfl, rfl⟩
  rcases Nat.lt_or_ge y 9223372036854775808 with h | h
  · rw [xor63 y h]; exact (key y h).1
  · obtain ⟨T, rfl⟩ : ∃ T, y = T + 9223372036854775808 := ⟨y - 9223372036854775808, by omega⟩
    rw [xor63' T (by omega)]; exact (key T (by omega)).2
theorem flip_lt {y : Nat} (hy : y < 18446744073709551616) : y ^^^ 2 ^ 63 < 18446744073709551616 := Nat.xor_lt_two_pow (n := 64) hy (by decide)
theorem nan_flip {y : Nat} (hy : y < 18446744073709551616) : nanB (y ^^^ 2 ^ 63) = nanB y := by
  have h := read_flip hy
  unfold nanB
  show (Datum.order (double.read (y ^^^ 2 ^ 63)) (double.read (y ^^^ 2 ^ 63)) != some .eq) = (Datum.order (double.read y) (double.read y) != some .eq)
  rw [h]
  cases double.read y with
  | number s m i => cases s <;> simp [Datum.opposite, Datum.order]
  | infinity s => cases s <;> rfl
  | nan s f => rfl
theorem sub_add {x y : Nat} (hy : y < 18446744073709551616) : arOut 1 x y = arOut 0 x (y ^^^ 2 ^ 63) := by
  show arZ .sub x y = arZ .add x (y ^^^ 2 ^ 63)
  unfold arZ
  have : floatBits .sub .f64 x y = floatBits .add .f64 x (y ^^^ 2 ^ 63) := by
    show Option.map _ (Datum.sum (double.read x) (double.read y).opposite) = Option.map _ (Datum.sum (double.read x) (double.read (y ^^^ 2 ^ 63)))
    rw [read_flip hy]
  rw [this]
theorem flip_back {y : Nat} (hy : y < 18446744073709551616) (h : nanB y = false) : fb (cb (y ^^^ 2 ^ 63)) = y ^^^ 2 ^ 63 :=
  fb_cb (flip_lt hy) (by rw [nan_flip hy]; exact h)

end Go.Proofs.Ytedhmidodcbegaa
