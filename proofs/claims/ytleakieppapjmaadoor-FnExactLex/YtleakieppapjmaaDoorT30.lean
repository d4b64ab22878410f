/- The text of a source, as a plain function of its tree. -/
import Derived.Test.YtleakieppapjmaaDoorT2
import Derived.Test.YtleakieppapjmaaDoorK6
namespace Go.Proofs.YtleakieppapjmaaDoor
open Go.RowKit

def nmAt (l : List Sc) (n : Int) : List Int := match l[n.toNat]? with | some x => x.name | none => []
def sayTy (l : List Sc) (k n : Int) : List Int := if k = 1 then [32, 105, 110, 116] else if k = 2 then [32, 102, 108, 111, 97, 116] else if k = 3 then [32, 42, 32] ++ nmAt l n else if k = 4 then [32, 91, 32, 93, 32, 105, 110, 116] else if k = 5 then [32, 91, 32, 93, 32, 102, 108, 111, 97, 116] else if k = 6 then [32, 91, 32, 93, 32, 42, 32] ++ nmAt l n else []
def opL (n : Int) : List Int := if n = 0 then [43] else if n = 1 then [45] else if n = 2 then [42] else if n = 3 then [47] else if n = 4 then [37] else if n = 5 then [60] else [61, 61]
def hexD (d : Nat) : Int := if d < 10 then 48 + (d : Int) else 87 + (d : Int)
def hexF : Nat → Nat → List Int
  | 0, _ => []
  | k + 1, u => hexF k (u / 16) ++ [hexD (u % 16)]
def hexL (n : Int) : List Int := [48, 102] ++ hexF 16 (n % 18446744073709551616).toNat
def tailL : List (List Int) → List Int
  | [] => []
  | x :: r => [32, 44] ++ x ++ tailL r
def joinL : List (List Int) → List Int
  | [] => []
  | x :: r => x ++ tailL r
def kidL (l : List (List Int)) (i : Nat) : List Int := l.getD i []
def headL (l : List Sc) (k tk tn : Int) (name : List Int) : List Int := if k = 5 then [32, 109, 97, 107, 101] ++ sayTy l tk tn else if k = 9 then [32, 108, 101, 110] else if k = 12 then [32, 105, 110, 116] else if k = 13 then [32, 102, 108, 111, 97, 116] else 32 :: name
/-- The text of an expression, by its kids' texts. -/
def exL (l : List Sc) (k n tk tn : Int) (name : List Int) (ts : List (List Int)) : List Int :=
  if k = 0 then 32 :: decL n else if k = 1 then 32 :: hexL n else if k = 2 then [32, 110, 105, 108, 32] ++ nmAt l n else if k = 3 then 32 :: name else if k = 4 then [32, 110, 101, 119, 32] ++ nmAt l n else if k = 11 then [32, 114, 101, 97, 100]
  else if k = 7 then kidL ts 0 ++ [32, 46, 32] ++ name else if k = 8 then kidL ts 0 ++ [32, 91] ++ kidL ts 1 ++ [32, 93] else if k = 10 then [32, 40] ++ kidL ts 0 ++ (32 :: opL n) ++ kidL ts 1 ++ [32, 41]
  else headL l k tk tn name ++ [32, 40] ++ joinL ts ++ [32, 41]
mutual
def Ex.say (l : List Sc) : Ex → List Int
  | .mk k n tk tn name kids => exL l k n tk tn name (Ex.says l kids)
def Ex.says (l : List Sc) : List Ex → List (List Int)
  | [] => []
  | x :: r => Ex.say l x :: Ex.says l r
end
theorem Ex.says_len (l : List Sc) (xs : List Ex) : (Ex.says l xs).length = xs.length := by
  induction xs with
  | nil => rw [Ex.says]; rfl
  | cons x r ih => rw [Ex.says, List.length_cons, List.length_cons, ih]
theorem Ex.says_at (l : List Sc) : ∀ (xs : List Ex) (j : Nat) (h : j < xs.length), kidL (Ex.says l xs) j = Ex.say l xs[j]
  | x :: r, 0, _ => by rw [Ex.says]; rfl
  | x :: r, j + 1, h => by rw [Ex.says]; exact Ex.says_at l r j (by simpa using h)
def blockL (t : List Int) : List Int := [32, 123, 10] ++ t ++ [125]
/-- The text of a statement with its line's end, by the texts of its kids, its body, its else. -/
def stL (l : List Sc) (k tk tn : Int) (name : List Int) (ts : List (List Int)) (b e : List Int) : List Int :=
  if k = 0 then [118, 97, 114, 32] ++ name ++ sayTy l tk tn ++ [32, 59, 10] else if k = 1 then (kidL ts 0).drop 1 ++ [32, 61] ++ kidL ts 1 ++ [32, 59, 10]
  else if k = 2 then [105, 102] ++ kidL ts 0 ++ blockL b ++ [32, 101, 108, 115, 101] ++ blockL e ++ [10] else if k = 3 then [102, 111, 114] ++ kidL ts 0 ++ blockL b ++ [10]
  else if k = 4 then [114, 101, 116, 117, 114, 110] ++ kidL ts 0 ++ [32, 59, 10] else if k = 5 then [112, 114, 105, 110, 116] ++ kidL ts 0 ++ [32, 59, 10] else if k = 6 then [112, 97, 110, 105, 99] ++ kidL ts 0 ++ [32, 59, 10] else [100, 111] ++ kidL ts 0 ++ [32, 59, 10]
mutual
def St.say (l : List Sc) : St → List Int
  | .mk k _ tk tn name kids body els => stL l k tk tn name (Ex.says l kids) (St.says l body) (St.says l els)
def St.says (l : List Sc) : List St → List Int
  | [] => []
  | x :: r => St.say l x ++ St.says l r
end
def paL (l : List Sc) (x : Pa) : List Int := x.name ++ sayTy l x.tk x.tn
def fieldsL (l : List Sc) : List Pa → List Int
  | [] => []
  | x :: r => paL l x ++ [32, 59, 10] ++ fieldsL l r
def scL (l : List Sc) (x : Sc) : List Int := [116, 121, 112, 101, 32] ++ x.name ++ [32, 115, 116, 114, 117, 99, 116, 32, 123, 10] ++ fieldsL l x.fields ++ [125, 10]
def scsL (l : List Sc) : List Sc → List Int
  | [] => []
  | x :: r => scL l x ++ scsL l r
def fuL (l : List Sc) (x : Fu) : List Int := [102, 117, 110, 99, 32] ++ x.name ++ [32, 40] ++ joinL (x.params.map fun p => 32 :: paL l p) ++ [32, 41] ++ sayTy l x.rk x.rn ++ blockL (St.says l x.body) ++ [10]
def fusL (l : List Sc) : List Fu → List Int
  | [] => []
  | x :: r => fuL l x ++ fusL l r
/-- The text of a source. -/
def So.text (x : So) : List Int := scsL x.structs x.structs ++ fusL x.structs x.funcs

/-- Not at the beginning of a line. -/
def midB (b : List Int) : Bool := match b.getLast? with | some z => !(z == 10) | none => false
/-- One token put behind a text. -/
def putL (b t : List Int) : List Int := b ++ (if midB b then 32 :: t else t)
theorem midB_append (b : List Int) {t : List Int} (h : midB t = true) : midB (b ++ t) = true := by
  unfold midB at h ⊢
  cases ht : t.getLast? with
  | none => rw [ht] at h; exact absurd h (by simp)
  | some z => rw [List.getLast?_append, ht]; rw [ht] at h; exact h
theorem midB_put (b : List Int) {t : List Int} (h : midB t = true) : midB (putL b t) = true := by
  unfold putL
  refine midB_append b ?_
  by_cases hm : midB b = true
  · rw [if_pos hm]; exact midB_append [32] h
  · rw [if_neg hm]; exact h
theorem putL_mid {b : List Int} (h : midB b = true) (t : List Int) : putL b t = b ++ 32 :: t := by unfold putL; rw [if_pos h]
theorem putL_new {b : List Int} (h : midB b = false) (t : List Int) : putL b t = b ++ t := by unfold putL; rw [if_neg (by rw [h]; exact Bool.false_ne_true)]
theorem midB_nil : midB [] = false := rfl
theorem midB_line (b : List Int) : midB (b ++ [10]) = false := by unfold midB; rw [List.getLast?_append]; rfl
end Go.Proofs.YtleakieppapjmaaDoor
