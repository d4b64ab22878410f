/- The bytes of an image, as the model writes them: plain functions. -/
import Derived.Test.YtlfkjjnhlkaipaaB1
import Derived.Test.YtlfkjjnhlkaipaaG5

namespace Go.Proofs.Ytlfkjjnhlkaipaa
open Go.RowKit Go.Lib

def bitL (b : Bool) : Int := if b then 1 else 0
def bsL (x : Bs) : List Int := twoL x.l.length ++ x.l.map bitL
/-- Eight bytes of a number, low first: the first j of them. -/
def eightL (n : Int) : Nat → List Int
  | 0 => []
  | j + 1 => eightL n j ++ [n % 18446744073709551616 / 2 ^ (8 * j) % 256]
def isL (i : Is) : List Int := [i.op, i.a, i.b, i.c] ++ eightL i.n 8
def insL : List Is → List Int
  | [] => []
  | i :: r => isL i ++ insL r
def slotsL : List Int → List Int
  | [] => []
  | n :: r => twoL n ++ slotsL r
def maL (m : Ma) : List Int := twoL m.pc ++ (twoL m.slots.length ++ slotsL m.slots)
def masL : List Ma → List Int
  | [] => []
  | i :: r => maL i ++ masL r
def cdL (c : Cd) : List Int := twoL c.frame ++ (twoL c.params ++ (twoL c.ins.length ++ (twoL c.maps.length ++ (insL c.ins ++ masL c.maps))))
def cdsL : List Cd → List Int
  | [] => []
  | i :: r => cdL i ++ cdsL r
def bssL : List Bs → List Int
  | [] => []
  | i :: r => bsL i ++ bssL r
def imL (x : Im) : List Int := [71, 73] ++ (twoL x.structs.length ++ (twoL x.codes.length ++ (twoL x.main ++ (bssL x.structs ++ cdsL x.codes))))
theorem twoL_len (n : Int) : (twoL n).length = 2 := rfl
theorem eightL_len (n : Int) : ∀ j, (eightL n j).length = j
  | 0 => rfl
  | j + 1 => by rw [eightL, List.length_append, eightL_len n j]; rfl
theorem isL_len (i : Is) : (isL i).length = 12 := by unfold isL; rw [List.length_append, eightL_len]; rfl
theorem insL_snoc (l : List Is) (i : Is) : insL (l ++ [i]) = insL l ++ isL i := by
  induction l with
  | nil => simp [insL]
  | cons x r ih => rw [List.cons_append, insL, insL, ih, List.append_assoc]
theorem slotsL_snoc (l : List Int) (i : Int) : slotsL (l ++ [i]) = slotsL l ++ twoL i := by
  induction l with
  | nil => simp [slotsL]
  | cons x r ih => rw [List.cons_append, slotsL, slotsL, ih, List.append_assoc]
theorem masL_snoc (l : List Ma) (i : Ma) : masL (l ++ [i]) = masL l ++ maL i := by
  induction l with
  | nil => simp [masL]
  | cons x r ih => rw [List.cons_append, masL, masL, ih, List.append_assoc]
theorem cdsL_snoc (l : List Cd) (i : Cd) : cdsL (l ++ [i]) = cdsL l ++ cdL i := by
  induction l with
  | nil => simp [cdsL]
  | cons x r ih => rw [List.cons_append, cdsL, cdsL, ih, List.append_assoc]
theorem bssL_snoc (l : List Bs) (i : Bs) : bssL (l ++ [i]) = bssL l ++ bsL i := by
  induction l with
  | nil => simp [bssL]
  | cons x r ih => rw [List.cons_append, bssL, bssL, ih, List.append_assoc]
theorem insL_len (l : List Is) : (insL l).length = 12 * l.length := by
  induction l with
  | nil => rfl
  | cons x r ih => rw [insL, List.length_append, ih, isL_len, List.length_cons]; omega
theorem slotsL_len (l : List Int) : (slotsL l).length = 2 * l.length := by
  induction l with
  | nil => rfl
  | cons x r ih => rw [slotsL, List.length_append, ih, twoL_len, List.length_cons]; omega
theorem maL_len (m : Ma) : (maL m).length = 4 + 2 * m.sz := by
  obtain ⟨pc, l⟩ := m
  unfold maL
  rw [List.length_append, List.length_append, twoL_len, twoL_len, slotsL_len]
  show 2 + (2 + 2 * l.length) = 4 + 2 * l.length
  omega
theorem masL_len (l : List Ma) : (masL l).length + 2 * l.length = 4 * l.length + 2 * Ma.szs l := by
  induction l with
  | nil => rfl
  | cons x r ih => rw [masL, List.length_append, maL_len, List.length_cons, Ma.szs]; omega
theorem cdL_len (c : Cd) : (cdL c).length = cdSz c := by
  obtain ⟨f, p, is, ms⟩ := c
  unfold cdL cdSz
  have e := masL_len ms
  have e2 := Ma.pre_all ms
  simp only [List.length_append, twoL_len, insL_len]
  show 2 + (2 + (2 + (2 + (12 * is.length + (masL ms).length)))) = 8 + 12 * is.length + (4 * ms.length + 2 * Ma.pre ms ms.length)
  omega
theorem cdsL_len (l : List Cd) : (cdsL l).length = cdSzs l := by
  induction l with
  | nil => rfl
  | cons x r ih => rw [cdsL, List.length_append, cdL_len, cdSzs, ih]
theorem bssL_len (l : List Bs) : (bssL l).length + l.length = 2 * l.length + Bs.szs l := by
  induction l with
  | nil => rfl
  | cons x r ih =>
    obtain ⟨b⟩ := x
    rw [bssL, List.length_append, List.length_cons, Bs.szs]
    unfold bsL
    rw [List.length_append, List.length_map, twoL_len]
    show 2 + b.length + _ + _ = _ + (1 + b.length + _)
    omega
theorem imL_len (x : Im) : (imL x).length = imSz x := by
  unfold imL imSz
  have e := bssL_len x.structs
  have e2 := Bs.pre_all x.structs
  simp only [List.length_append, twoL_len, cdsL_len]
  show 2 + (2 + (2 + (2 + ((bssL x.structs).length + _)))) = _
  omega
/-- Numbers of two bytes, and of one. -/
def W2 (n : Int) : Prop := 0 ≤ n ∧ n < 65536
def W1 (n : Int) : Prop := 0 ≤ n ∧ n < 256
structure Cd.Rg (c : Cd) : Prop where
  fr : W2 c.frame
  pr : W2 c.params
  il : W2 c.ins.length
  ml : W2 c.maps.length
  ins : ∀ i ∈ c.ins, W1 i.op ∧ W1 i.a ∧ W1 i.b ∧ W1 i.c ∧ (-9223372036854775808 ≤ i.n ∧ i.n ≤ 9223372036854775807)
  maps : ∀ m ∈ c.maps, W2 m.pc ∧ W2 m.slots.length ∧ ∀ s ∈ m.slots, W2 s
structure Im.Rg (x : Im) : Prop where
  sl : W2 x.structs.length
  cl : W2 x.codes.length
  mn : W2 x.main
  st : ∀ s ∈ x.structs, W2 s.l.length
  cd : ∀ c ∈ x.codes, c.Rg
end Go.Proofs.Ytlfkjjnhlkaipaa
