/- What Lex asks of bytes: letters, digits, signs, words. -/
import Derived.Test.YtlfkjjnhlkaipaaK1
namespace Go.Proofs.Ytlfkjjnhlkaipaa
open Go.RowKit

def low (z : Int) : Bool := decide (97 ≤ z) && decide (z ≤ 122)
def up (z : Int) : Bool := decide (65 ≤ z) && decide (z ≤ 90)
def dig (z : Int) : Bool := decide (48 ≤ z) && decide (z ≤ 57)
def inner (z : Int) : Bool := low z || up z || dig z
def signL : List Int := [40, 41, 123, 125, 91, 93, 44, 59, 46, 42, 61, 43, 47, 37, 60, 45]
def sign (z : Int) : Bool := signL.contains z

theorem range7 (z : Int) : (z < 48) ∨ (48 ≤ z ∧ z ≤ 57) ∨ (57 < z ∧ z < 65) ∨ (65 ≤ z ∧ z ≤ 90) ∨ (90 < z ∧ z < 97) ∨ (97 ≤ z ∧ z ≤ 122) ∨ (122 < z) := by omega

theorem sign_at : ∀ k (h : k < 16), ((({ data := #[40, 41, 123, 125, 91, 93, 44, 59, 46, 42, 61, 43, 47, 37, 60, 45] } : ByteArray)[k]'(by exact h)).toNat : Int) = signL.getD k 0 := by decide
theorem sign_true {z : Int} {k : Nat} (h : k < 16) (e : signL.getD k 0 = z) : sign z = true := by
  have : ∀ k, k < 16 → sign (signL.getD k 0) = true := by decide
  rw [← e]; exact this k h
theorem sign_false {z : Int} (h : ∀ j, j < 16 → signL.getD j 0 ≠ z) : sign z = false := by
  unfold sign
  rw [← Bool.not_eq_true, List.contains_iff_exists_mem_beq]
  rintro ⟨a, ha, hb⟩
  obtain ⟨j, hj, rfl⟩ := List.mem_iff_getElem.1 ha
  have e : z = signL[j] := by simpa using hb
  refine h j hj ?_
  rw [List.getD_eq_getElem?_getD, List.getElem?_eq_getElem hj, e]
  rfl

/-- A small or a great word. -/
def wordL (zs : List Int) (great : Bool) : Bool := decide (1 ≤ zs.length) && decide (zs.length ≤ 8) && (if great then up (zs.getD 0 0) else low (zs.getD 0 0)) && zs.tail.all (fun z => low z || dig z)
/-- May it stand at this place of a word? -/
def wordAt (k : Nat) (great : Bool) (z : Int) : Bool := if k = 0 then (if great then up z else low z) else low z || dig z
theorem wordL_eq {zs : List Int} (great : Bool) (h1 : 1 ≤ zs.length) (h8 : zs.length ≤ 8) : wordL zs great = true ↔ ∀ j, j < zs.length → wordAt j great (zs.getD j 0) = true := by
  match zs, h1 with
  | z :: r, _ =>
    unfold wordL
    have e1 : decide (1 ≤ (z :: r).length) = true := by simp
    have e2 : decide ((z :: r).length ≤ 8) = true := by simpa using h8
    rw [e1, e2]
    simp only [Bool.true_and, Bool.and_eq_true, List.tail_cons, List.all_eq_true]
    constructor
    · rintro ⟨ha, hb⟩ j hj
      match j with
      | 0 => exact ha
      | j + 1 =>
        have hj' : j < r.length := by simpa using hj
        show (low _ || dig _) = true
        refine hb _ ?_
        simp only [List.getD_cons_succ]
        rw [List.getD_eq_getElem?_getD, List.getElem?_eq_getElem hj']
        exact List.getElem_mem _
    · intro h
      refine ⟨h 0 (by simp), fun x hx => ?_⟩
      obtain ⟨j, hj, rfl⟩ := List.mem_iff_getElem.1 hx
      have := h (j + 1) (by simpa using hj)
      simp only [List.getD_cons_succ, wordAt] at this
      rw [List.getD_eq_getElem?_getD, List.getElem?_eq_getElem hj] at this
      simpa using this
theorem wk {k : Nat} (h : k ≠ 0) (g : Bool) (z : Int) : wordAt k g z = (low z || dig z) := if_neg h
theorem ranges (z : Int) : ∃ a b c : Bool, a = low z ∧ b = up z ∧ c = dig z := ⟨_, _, _, rfl, rfl, rfl⟩

end Go.Proofs.Ytlfkjjnhlkaipaa
