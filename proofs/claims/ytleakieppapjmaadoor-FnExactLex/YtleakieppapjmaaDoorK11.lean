/- The tokens of a text as plain lists, and tokens under way. -/
import Derived.Test.YtleakieppapjmaaDoorK10
namespace Go.Proofs.YtleakieppapjmaaDoor.KL
open Go.RowKit

def pieceF (zs : List Int) : Nat → Nat → Nat
  | 0, j => j
  | f + 1, j => if decide (j < zs.length) && inner (zs.getD j 0) then pieceF zs f (j + 1) else j
def pieceE (zs : List Int) (j : Nat) : Nat := pieceF zs zs.length j
def blankB (z : Int) : Bool := z == 32 || z == 10
def startB (zs : List Int) (i : Nat) : Bool := inner (zs.getD i 0) || ((zs.getD i 0 == 45) && decide (i + 1 < zs.length) && dig (zs.getD (i + 1) 0))
def cutL (zs : List Int) (i j : Nat) : List Int := (zs.take j).drop i
/-- A piece's token. -/
def pieceT (p : List Int) (i : Nat) : Option Tok :=
  match intOfL p with
  | some n => some (2, (i : Int), n, [])
  | none => match floatOfL p with
    | some m => some (3, (i : Int), m, [])
    | none => if wordL p false || wordL p true then some (1, (i : Int), 0, p) else none
def signE (zs : List Int) (i : Nat) : Nat := if (zs.getD i 0 == 61) && decide (i + 1 < zs.length) && (zs.getD (i + 1) 0 == 61) then i + 2 else i + 1
def stepL (zs : List Int) (i : Nat) : Option (List Tok × Nat) :=
  if blankB (zs.getD i 0) then some ([], i + 1)
  else if startB zs i then (pieceT (cutL zs i (pieceE zs (i + 1))) i).map fun t => ([t], pieceE zs (i + 1))
  else if sign (zs.getD i 0) then some ([(4, (i : Int), 0, cutL zs i (signE zs i))], signE zs i)
  else none
def lexR (zs : List Int) : Nat → Nat → List Tok → List Tok × Int
  | 0, _, acc => (acc, -1)
  | f + 1, i, acc => if decide (i < zs.length) then (match stepL zs i with | none => ([], (i : Int)) | some (t, j) => lexR zs f j (acc ++ t)) else (acc, -1)
def lexL (zs : List Int) : List Tok × Int := if decide (6000 < zs.length) then ([], 0) else lexR zs zs.length 0 []
def lexT (zs : List Int) : List Tok := (lexL zs).1
def lexB (zs : List Int) : Int := (lexL zs).2

/-- So far, from k on. -/
def SoFar (zs : List Int) (k : Nat) (acc : List Tok) : Prop := ∃ f, zs.length - k ≤ f ∧ lexR zs f k acc = lexR zs zs.length 0 []
theorem SoFar.start (zs : List Int) : SoFar zs 0 [] := ⟨zs.length, by omega, rfl⟩
theorem SoFar.done {zs : List Int} {k : Nat} {acc : List Tok} (h : SoFar zs k acc) (hk : zs.length ≤ k) : lexR zs zs.length 0 [] = (acc, -1) := by
  obtain ⟨f, _, e⟩ := h
  rw [← e]
  cases f with
  | zero => rfl
  | succ f => rw [lexR, if_neg (by simp; omega)]
theorem SoFar.bad {zs : List Int} {k : Nat} {acc : List Tok} (h : SoFar zs k acc) (hk : k < zs.length) (hs : stepL zs k = none) : lexR zs zs.length 0 [] = ([], (k : Int)) := by
  obtain ⟨f, hf, e⟩ := h
  rw [← e]
  cases f with
  | zero => omega
  | succ f => rw [lexR, if_pos (by simpa using hk), hs]
theorem SoFar.next {zs : List Int} {k : Nat} {acc : List Tok} (h : SoFar zs k acc) (hk : k < zs.length) {t : List Tok} {j : Nat} (hs : stepL zs k = some (t, j)) (hj : k < j) : SoFar zs j (acc ++ t) := by
  obtain ⟨f, hf, e⟩ := h
  cases f with
  | zero => omega
  | succ f =>
    rw [lexR, if_pos (by simpa using hk), hs] at e
    exact ⟨f, by omega, e⟩
/-- A piece so far. -/
def Piece (zs : List Int) (j E : Nat) : Prop := ∃ f, zs.length - j ≤ f ∧ pieceF zs f j = E
theorem Piece.start (zs : List Int) (j : Nat) : Piece zs j (pieceE zs j) := ⟨zs.length, by omega, rfl⟩
theorem Piece.done {zs : List Int} {j E : Nat} (h : Piece zs j E) (hn : ¬ (j < zs.length ∧ inner (zs.getD j 0) = true)) : E = j := by
  obtain ⟨f, _, e⟩ := h
  rw [← e]
  cases f with
  | zero => rfl
  | succ f => rw [pieceF, if_neg (by simpa using hn)]
theorem Piece.next {zs : List Int} {j E : Nat} (h : Piece zs j E) (h1 : j < zs.length) (h2 : inner (zs.getD j 0) = true) : Piece zs (j + 1) E := by
  obtain ⟨f, hf, e⟩ := h
  cases f with
  | zero => omega
  | succ f =>
    rw [pieceF, if_pos (by rw [decide_eq_true h1, h2]; rfl)] at e
    exact ⟨f, by omega, e⟩
theorem pieceF_ge (zs : List Int) (f j : Nat) : j ≤ pieceF zs f j ∧ (j ≤ zs.length → pieceF zs f j ≤ zs.length) := by
  induction f generalizing j with
  | zero => exact ⟨Nat.le_refl _, fun h => h⟩
  | succ f ih =>
    unfold pieceF
    split
    · rename_i hc
      rw [Bool.and_eq_true, decide_eq_true_eq] at hc
      have := ih (j + 1)
      exact ⟨by omega, fun _ => this.2 (by omega)⟩
    · exact ⟨Nat.le_refl _, fun h => h⟩
theorem pieceE_ge (zs : List Int) (j : Nat) : j ≤ pieceE zs j := (pieceF_ge zs _ j).1
theorem pieceE_le {zs : List Int} {j : Nat} (h : j ≤ zs.length) : pieceE zs j ≤ zs.length := (pieceF_ge zs _ j).2 h
theorem cutL_len {zs : List Int} {i j : Nat} (h : j ≤ zs.length) : (cutL zs i j).length = j - i := by unfold cutL; simp; omega
theorem cutL_get {zs : List Int} {i j m : Nat} (_ : j ≤ zs.length) (hm : m < j - i) : (cutL zs i j).getD m 0 = zs.getD (i + m) 0 := by
  unfold cutL
  rw [List.getD_eq_getElem?_getD, List.getD_eq_getElem?_getD, List.getElem?_drop, List.getElem?_take_of_lt (by omega)]
theorem cutL_isB {zs : List Int} (hz : ∀ j, isB (zs.getD j 0)) {i j : Nat} (hj : j ≤ zs.length) : ∀ m, isB ((cutL zs i j).getD m 0) := by
  intro m
  rcases Nat.lt_or_ge m (j - i) with h | h
  · rw [cutL_get hj h]; exact hz _
  · rw [List.getD_eq_getElem?_getD, List.getElem?_eq_none (by rw [cutL_len hj]; exact h)]; exact ⟨by simp, by simp⟩

/-- Tokens and their texts' slices, cell by cell. -/
def flatT : List (Tok × Value) → List Value
  | [] => []
  | p :: r => .int .i64 p.1.1 :: .int .i64 p.1.2.1 :: .int .i64 p.1.2.2.1 :: p.2 :: flatT r
theorem flatT_len (ps : List (Tok × Value)) : (flatT ps).length = ps.length * 4 := by
  induction ps with
  | nil => rfl
  | cons p r ih => simp [flatT, ih]; omega
theorem flatT_append (ps qs : List (Tok × Value)) : flatT (ps ++ qs) = flatT ps ++ flatT qs := by
  induction ps with
  | nil => rfl
  | cons p r ih => simp [flatT, ih]
theorem flatT_get : ∀ (ps : List (Tok × Value)) (j : Nat) (hj : j < ps.length), (flatT ps)[j * 4]? = some (.int .i64 ps[j].1.1) ∧ (flatT ps)[j * 4 + 1]? = some (.int .i64 ps[j].1.2.1) ∧ (flatT ps)[j * 4 + 2]? = some (.int .i64 ps[j].1.2.2.1) ∧ (flatT ps)[j * 4 + 3]? = some ps[j].2
  | p :: r, 0, _ => ⟨rfl, rfl, rfl, rfl⟩
  | p :: r, j + 1, hj => by
    have := flatT_get r j (by simpa using hj)
    rw [show (j + 1) * 4 = j * 4 + 1 + 1 + 1 + 1 by omega]
    exact this
/-- Tokens under way. -/
structure OutOK (base : Nat) (w : World) (v : Value) (ps : List (Tok × Value)) : Prop where
  row : w.ownsRow base 34 4 v ps.length (flatT ps)
  text : ∀ p ∈ ps, w.ownsRow base 5 1 p.2 p.1.2.2.2.length (p.1.2.2.2.map (Value.int .u8)) ∧ (∀ j, isB (p.1.2.2.2.getD j 0)) ∧ p.1.2.2.2.length ≤ 6000
theorem OutOK.nil (base : Nat) (w : World) : OutOK base w (.slice none 0 0) [] := ⟨World.ownsRow_nil _ _ _ _, fun p hp => by cases hp⟩
theorem own_apart {w : World} {b1 b2 n1 n2 : Nat} {v1 v2 : Value} {xs ys : List Value} (h1 : w.ownsRow b1 5 1 v1 n1 xs) (h2 : w.ownsRow b2 34 4 v2 n2 ys) : ∀ g, v2.ownBlock = some g → v1.ownBlock ≠ some g := by
  intro g hg e
  rcases h1.2 with ⟨rfl, _⟩ | ⟨g1, c1, cur1, rfl, _, hh1, _⟩
  · cases e
  · rcases h2.2 with ⟨rfl, _⟩ | ⟨g2, c2, cur2, rfl, _, hh2, _⟩
    · cases hg
    · simp only [Value.ownBlock, Option.some.injEq] at e hg
      rw [hg, ← e] at hh2
      rw [hh1] at hh2
      simp at hh2
theorem own_keep {w w' : World} {b n : Nat} {v u : Value} {xs : List Value} (h : w.ownsRow b 5 1 v n xs) (hg : w.grownBy w' u.ownBlock) (hn : ∀ g, u.ownBlock = some g → v.ownBlock ≠ some g) : w'.ownsRow b 5 1 v n xs := by
  refine h.kept hg ?_
  cases hu : u.ownBlock with
  | none => cases hv : v.ownBlock <;> simp
  | some g => exact .inr (hn g hu)
theorem OutOK.later {base : Nat} {w w' : World} {v : Value} {ps : List (Tok × Value)} (h : OutOK base w v ps) (hl : Later w w') : OutOK base w' v ps :=
  ⟨h.row.kept (row := none) ⟨hl.os, hl.tape, hl.output, hl.size, fun k hk _ => hl.block k hk⟩ (by cases hv : v.ownBlock <;> simp), fun p hp => ⟨later_ownb (h.text p hp).1 hl, (h.text p hp).2⟩⟩
theorem OutOK.push {base : Nat} {w w' : World} {v v' : Value} {ps : List (Tok × Value)} (h : OutOK base w v ps) (t : Tok) (tv : Value) (ht : w.ownsRow base 5 1 tv t.2.2.2.length (t.2.2.2.map (Value.int .u8))) (hb : ∀ j, isB (t.2.2.2.getD j 0)) (hl : t.2.2.2.length ≤ 6000)
    (ho : w'.ownsRow base 34 4 v' (ps.length + 1) (flatT ps ++ [.int .i64 t.1, .int .i64 t.2.1, .int .i64 t.2.2.1, tv])) (hg : w.grownBy w' v.ownBlock) : OutOK base w' v' (ps ++ [(t, tv)]) := by
  refine ⟨?_, fun p hp => ?_⟩
  · rw [flatT_append, List.length_append]; exact ho
  · rcases List.mem_append.1 hp with hp | hp
    · exact ⟨own_keep (h.text p hp).1 hg (own_apart (h.text p hp).1 h.row), (h.text p hp).2⟩
    · rw [List.mem_singleton.1 hp]
      exact ⟨own_keep ht hg (own_apart ht h.row), hb, hl⟩
theorem OutOK.rd {base : Nat} {w : World} {v : Value} {ps : List (Tok × Value)} (h : OutOK base w v ps) (hl : ps.length ≤ 6000) : RdT w v (ps.map (·.1)) := by
  rcases h.row.2 with ⟨rfl, h0⟩ | ⟨g, cap, _, rfl, _⟩
  · have : ps = [] := List.eq_nil_of_length_eq_zero h0
    subst this
    exact RdT.nil w
  · refine ⟨some ⟨g, 0, none⟩, cap, by rw [List.length_map], by rw [List.length_map]; omega, fun j hj => ?_⟩
    rw [List.length_map] at hj
    obtain ⟨c0, c1, c2, c3⟩ := flatT_get ps j hj
    rw [← h.row.cellAt (j * 4) (by omega)] at c0
    rw [← h.row.cellAt (j * 4 + 1) (by omega)] at c1
    rw [← h.row.cellAt (j * 4 + 2) (by omega)] at c2
    rw [← h.row.cellAt (j * 4 + 3) (by omega)] at c3
    obtain ⟨ht, hb, hs⟩ := h.text ps[j] (List.getElem_mem _)
    have hr := own_rdb' ht (by omega) hb
    obtain ⟨ta, tc, hv, _⟩ := id hr
    rw [hv] at hr c3
    simp only [List.getElem_map]
    exact ⟨g, 0, ta, tc, rfl, lt_of_cell c0, by rw [Nat.zero_add]; exact c0, by rw [Nat.zero_add]; exact c1, by rw [Nat.zero_add]; exact c2, by rw [Nat.zero_add]; exact c3, hr⟩

end Go.Proofs.YtleakieppapjmaaDoor.KL
