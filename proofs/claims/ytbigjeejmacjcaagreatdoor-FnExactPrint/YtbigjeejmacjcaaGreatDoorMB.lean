/- Several of my texts in one: T60, T59, T61, T62, T63. -/
import Derived.Test.YtbigjeejmacjcaaGreatDoorMA
import Derived.Test.YtbigjeejmacjcaaGreatDoorMD
import Derived.Test.YtbigjeejmacjcaaGreatDoorShelf
import Derived.Test.YtbigjeejmacjcaaGreatDoorME
import Derived.Lib.AppendIntMem
/- What is counted as a source can be told: every tree is fine, and its text is short. -/
namespace Go.Proofs.YtbigjeejmacjcaaGreatDoor
open Go.RowKit Go.Lib
theorem word_tok {zs : List Int} {great : Bool} (h : wordL zs great = true) : 1 ≤ zs.length ∧ zs.length ≤ 8 ∧ midB zs = true := by
  unfold wordL at h
  rw [Bool.and_eq_true, Bool.and_eq_true, Bool.and_eq_true, decide_eq_true_eq, decide_eq_true_eq] at h
  obtain ⟨⟨⟨h1, h8⟩, hf⟩, ht⟩ := h
  refine ⟨h1, h8, ?_⟩
  have hall : ∀ z ∈ zs, z ≠ 10 := by
    cases zs with
    | nil => simp at h1
    | cons a r =>
      intro z hz
      rcases List.mem_cons.1 hz with rfl | hz
      · cases great
        · simp [low] at hf; omega
        · simp [up] at hf; omega
      · rw [List.all_eq_true] at ht
        have := ht z hz
        simp [low, dig] at this
        omega
  unfold midB
  cases hl : zs.getLast? with
  | none => rw [List.getLast?_eq_none_iff] at hl; rw [hl] at h1; simp at h1
  | some z => simpa using hall z (List.mem_of_getLast? hl)
theorem name_tok {zs : List Int} (h : nameL zs = true) : 1 ≤ zs.length ∧ zs.length ≤ 8 ∧ midB zs = true := by
  unfold nameL at h
  rw [Bool.and_eq_true] at h
  exact word_tok h.1
/-- Structs' names as they may be. -/
def NamesS (l : List Sc) : Prop := ∀ x ∈ l, 1 ≤ x.name.length ∧ x.name.length ≤ 8 ∧ midB x.name = true
theorem NamesS.tok {l : List Sc} (h : NamesS l) : NamesTok l := fun x hx => ⟨⟨(h x hx).1, by have := (h x hx).2.1; omega⟩, (h x hx).2.2⟩
theorem NamesS.len {l : List Sc} (h : NamesS l) (n : Int) : (nmAt l n).length ≤ 8 := by
  unfold nmAt
  cases e : l[n.toNat]? with
  | none => simp
  | some x => exact (h x (List.mem_of_getElem? e)).2.1
theorem tyB_fine {l : List Sc} {k n s : Int} {no : Bool} (hs : s ≤ l.length) (h : tyB k n s no = true) : TyFine l k n := by
  unfold tyB at h
  refine ⟨?_, ?_, ?_⟩
  · split at h
    · omega
    split at h
    · omega
    split at h
    · omega
    cases h
  · split at h
    · omega
    split at h
    · omega
    split at h
    · omega
    cases h
  · intro hk
    rw [if_neg (by omega), if_neg (by omega), if_pos hk, Bool.and_eq_true, decide_eq_true_eq, decide_eq_true_eq] at h
    omega
theorem sayTy_len {l : List Sc} (hn : NamesS l) (k n : Int) : (sayTy l k n).length ≤ 15 := by
  have := hn.len n
  unfold sayTy
  repeat' split
  all_goals simp
  all_goals omega
theorem hereE_ok {l : List Sc} {k n tk tn : Int} {nm : List Int} {m : Nat} (hg : InR n) (h : hereE (l.length : Int) k n tk tn nm m = true) : NodeOk l k n tk tn nm m ∧ NodeTk l k n tk tn nm m ∧ nm.length ≤ 8 ∧ m ≤ 4 := by
  unfold hereE at h
  have hk : 0 ≤ k ∧ k ≤ 13 := by
    rcases Int.lt_or_le k 0 with q | q
    · have : formE k = none := by unfold formE; repeat (rw [if_neg (by omega)])
      rw [this] at h; cases h
    · rcases Int.lt_or_le 13 k with q2 | q2
      · have : formE k = none := by unfold formE; repeat (rw [if_neg (by omega)])
        rw [this] at h; cases h
      · exact ⟨q, q2⟩
  have h8 : nm.length = 0 ∨ (1 ≤ nm.length ∧ nm.length ≤ 8 ∧ midB nm = true) → nm.length ≤ 8 := fun q => by rcases q with q | q <;> omega
  obtain rfl | rfl | rfl | rfl | rfl | rfl | rfl | rfl | rfl | rfl | rfl | rfl | rfl | rfl := fourteen hk.1 hk.2
  · have hf : formE 0 = some (0, 0, 1, 0, false, false, false) := rfl
    rw [hf] at h
    simp only [fitsB, Bool.and_eq_true, decide_eq_true_eq] at h
    obtain ⟨⟨⟨⟨q1, q2⟩, q3⟩, q4⟩, q5⟩ := h
    have q3' : nm.length = 0 := by simpa using q3
    exact ⟨⟨by decide, by decide, hg, by omega, by omega, fun q => absurd q (by decide), fun q => absurd q (by decide), fun q => absurd q (by decide), fun q => absurd q (by decide), fun q => absurd q (by decide), fun q => absurd q (by decide)⟩, ⟨fun q => absurd q (by decide), fun q => absurd q (by decide), fun q => absurd q (by decide)⟩, by omega, by omega⟩
  · have hf : formE 1 = some (0, 0, 2, 0, false, false, false) := rfl
    rw [hf] at h
    simp only [fitsB, Bool.and_eq_true, decide_eq_true_eq] at h
    obtain ⟨⟨⟨⟨q1, q2⟩, q3⟩, q4⟩, q5⟩ := h
    have q3' : nm.length = 0 := by simpa using q3
    exact ⟨⟨by decide, by decide, hg, by omega, by omega, fun q => absurd q (by decide), fun q => absurd q (by decide), fun q => absurd q (by decide), fun q => absurd q (by decide), fun q => absurd q (by decide), fun q => absurd q (by decide)⟩, ⟨fun q => absurd q (by decide), fun q => absurd q (by decide), fun q => absurd q (by decide)⟩, by omega, by omega⟩
  · have hf : formE 2 = some (0, 0, 3, 0, false, false, false) := rfl
    rw [hf] at h
    simp only [fitsB, Bool.and_eq_true, decide_eq_true_eq] at h
    obtain ⟨⟨⟨⟨q1, q2⟩, q3⟩, q4⟩, q5⟩ := h
    have q3' : nm.length = 0 := by simpa using q3
    have q4' : 0 ≤ n ∧ n < (l.length : Int) := by simpa [numB] using q4
    exact ⟨⟨by decide, by decide, hg, by omega, by omega, fun _ => q4', fun q => absurd q (by decide), fun q => absurd q (by decide), fun q => absurd q (by decide), fun q => absurd q (by decide), fun q => absurd q (by decide)⟩, ⟨fun q => absurd q (by decide), fun q => absurd q (by decide), fun q => absurd q (by decide)⟩, by omega, by omega⟩
  · have hf : formE 3 = some (0, 0, 0, 0, true, false, false) := rfl
    rw [hf] at h
    simp only [fitsB, Bool.and_eq_true, decide_eq_true_eq] at h
    obtain ⟨⟨⟨⟨q1, q2⟩, q3⟩, q4⟩, q5⟩ := h
    have q3' := name_tok (show nameL nm = true from q3)
    exact ⟨⟨by decide, by decide, hg, by omega, by omega, fun q => absurd q (by decide), fun q => absurd q (by decide), fun _ => q3'.1, fun q => absurd q (by decide), fun q => absurd q (by decide), fun q => absurd q (by decide)⟩, ⟨fun _ => q3'.2.2, fun q => absurd q (by decide), fun q => absurd q (by decide)⟩, by omega, by omega⟩
  · have hf : formE 4 = some (0, 0, 3, 0, false, false, false) := rfl
    rw [hf] at h
    simp only [fitsB, Bool.and_eq_true, decide_eq_true_eq] at h
    obtain ⟨⟨⟨⟨q1, q2⟩, q3⟩, q4⟩, q5⟩ := h
    have q3' : nm.length = 0 := by simpa using q3
    have q4' : 0 ≤ n ∧ n < (l.length : Int) := by simpa [numB] using q4
    exact ⟨⟨by decide, by decide, hg, by omega, by omega, fun _ => q4', fun q => absurd q (by decide), fun q => absurd q (by decide), fun q => absurd q (by decide), fun q => absurd q (by decide), fun q => absurd q (by decide)⟩, ⟨fun q => absurd q (by decide), fun q => absurd q (by decide), fun q => absurd q (by decide)⟩, by omega, by omega⟩
  · have hf : formE 5 = some (1, 1, 0, 2, false, false, false) := rfl
    rw [hf] at h
    simp only [fitsB, Bool.and_eq_true, decide_eq_true_eq] at h
    obtain ⟨⟨⟨⟨q1, q2⟩, q3⟩, q4⟩, q5⟩ := h
    have q3' : nm.length = 0 := by simpa using q3
    have q5' : TyFine l tk tn := by
      have : tylB tk tn (l.length : Int) = true := q5
      unfold tylB at this
      rw [Bool.and_eq_true] at this
      exact tyB_fine (Int.le_refl _) this.2
    exact ⟨⟨by decide, by decide, hg, by omega, by omega, fun q => absurd q (by decide), fun q => absurd q (by decide), fun q => absurd q (by decide), fun q => absurd q (by decide), fun q => absurd q (by decide), fun _ => q5'.2.2⟩, ⟨fun q => absurd q (by decide), fun q => absurd q (by decide), fun _ => q5'⟩, by omega, by omega⟩
  · have hf : formE 6 = some (0, 4, 0, 0, true, false, false) := rfl
    rw [hf] at h
    simp only [fitsB, Bool.and_eq_true, decide_eq_true_eq] at h
    obtain ⟨⟨⟨⟨q1, q2⟩, q3⟩, q4⟩, q5⟩ := h
    have q3' := name_tok (show nameL nm = true from q3)
    exact ⟨⟨by decide, by decide, hg, by omega, by omega, fun q => absurd q (by decide), fun q => absurd q (by decide), fun _ => q3'.1, fun q => absurd q (by decide), fun q => absurd q (by decide), fun q => absurd q (by decide)⟩, ⟨fun _ => q3'.2.2, fun q => absurd q (by decide), fun q => absurd q (by decide)⟩, by omega, by omega⟩
  · have hf : formE 7 = some (1, 1, 0, 0, true, false, false) := rfl
    rw [hf] at h
    simp only [fitsB, Bool.and_eq_true, decide_eq_true_eq] at h
    obtain ⟨⟨⟨⟨q1, q2⟩, q3⟩, q4⟩, q5⟩ := h
    have q3' := name_tok (show nameL nm = true from q3)
    exact ⟨⟨by decide, by decide, hg, by omega, by omega, fun q => absurd q (by decide), fun q => absurd q (by decide), fun _ => q3'.1, fun _ => by omega, fun q => absurd q (by decide), fun q => absurd q (by decide)⟩, ⟨fun _ => q3'.2.2, fun q => absurd q (by decide), fun q => absurd q (by decide)⟩, by omega, by omega⟩
  · have hf : formE 8 = some (2, 2, 0, 0, false, false, false) := rfl
    rw [hf] at h
    simp only [fitsB, Bool.and_eq_true, decide_eq_true_eq] at h
    obtain ⟨⟨⟨⟨q1, q2⟩, q3⟩, q4⟩, q5⟩ := h
    have q3' : nm.length = 0 := by simpa using q3
    exact ⟨⟨by decide, by decide, hg, by omega, by omega, fun q => absurd q (by decide), fun q => absurd q (by decide), fun q => absurd q (by decide), fun _ => by omega, fun _ => by omega, fun q => absurd q (by decide)⟩, ⟨fun q => absurd q (by decide), fun _ => by omega, fun q => absurd q (by decide)⟩, by omega, by omega⟩
  · have hf : formE 9 = some (1, 1, 0, 0, false, false, false) := rfl
    rw [hf] at h
    simp only [fitsB, Bool.and_eq_true, decide_eq_true_eq] at h
    obtain ⟨⟨⟨⟨q1, q2⟩, q3⟩, q4⟩, q5⟩ := h
    have q3' : nm.length = 0 := by simpa using q3
    exact ⟨⟨by decide, by decide, hg, by omega, by omega, fun q => absurd q (by decide), fun q => absurd q (by decide), fun q => absurd q (by decide), fun q => absurd q (by decide), fun q => absurd q (by decide), fun q => absurd q (by decide)⟩, ⟨fun q => absurd q (by decide), fun q => absurd q (by decide), fun q => absurd q (by decide)⟩, by omega, by omega⟩
  · have hf : formE 10 = some (2, 2, 4, 0, false, false, false) := rfl
    rw [hf] at h
    simp only [fitsB, Bool.and_eq_true, decide_eq_true_eq] at h
    obtain ⟨⟨⟨⟨q1, q2⟩, q3⟩, q4⟩, q5⟩ := h
    have q3' : nm.length = 0 := by simpa using q3
    have q4' : 0 ≤ n ∧ n < 7 := by simpa [numB] using q4
    exact ⟨⟨by decide, by decide, hg, by omega, by omega, fun q => absurd q (by decide), fun _ => q4', fun q => absurd q (by decide), fun _ => by omega, fun _ => by omega, fun q => absurd q (by decide)⟩, ⟨fun q => absurd q (by decide), fun _ => by omega, fun q => absurd q (by decide)⟩, by omega, by omega⟩
  · have hf : formE 11 = some (0, 0, 0, 0, false, false, false) := rfl
    rw [hf] at h
    simp only [fitsB, Bool.and_eq_true, decide_eq_true_eq] at h
    obtain ⟨⟨⟨⟨q1, q2⟩, q3⟩, q4⟩, q5⟩ := h
    have q3' : nm.length = 0 := by simpa using q3
    exact ⟨⟨by decide, by decide, hg, by omega, by omega, fun q => absurd q (by decide), fun q => absurd q (by decide), fun q => absurd q (by decide), fun q => absurd q (by decide), fun q => absurd q (by decide), fun q => absurd q (by decide)⟩, ⟨fun q => absurd q (by decide), fun q => absurd q (by decide), fun q => absurd q (by decide)⟩, by omega, by omega⟩
  · have hf : formE 12 = some (1, 1, 0, 0, false, false, false) := rfl
    rw [hf] at h
    simp only [fitsB, Bool.and_eq_true, decide_eq_true_eq] at h
    obtain ⟨⟨⟨⟨q1, q2⟩, q3⟩, q4⟩, q5⟩ := h
    have q3' : nm.length = 0 := by simpa using q3
    exact ⟨⟨by decide, by decide, hg, by omega, by omega, fun q => absurd q (by decide), fun q => absurd q (by decide), fun q => absurd q (by decide), fun q => absurd q (by decide), fun q => absurd q (by decide), fun q => absurd q (by decide)⟩, ⟨fun q => absurd q (by decide), fun q => absurd q (by decide), fun q => absurd q (by decide)⟩, by omega, by omega⟩
  · have hf : formE 13 = some (1, 1, 0, 0, false, false, false) := rfl
    rw [hf] at h
    simp only [fitsB, Bool.and_eq_true, decide_eq_true_eq] at h
    obtain ⟨⟨⟨⟨q1, q2⟩, q3⟩, q4⟩, q5⟩ := h
    have q3' : nm.length = 0 := by simpa using q3
    exact ⟨⟨by decide, by decide, hg, by omega, by omega, fun q => absurd q (by decide), fun q => absurd q (by decide), fun q => absurd q (by decide), fun q => absurd q (by decide), fun q => absurd q (by decide), fun q => absurd q (by decide)⟩, ⟨fun q => absurd q (by decide), fun q => absurd q (by decide), fun q => absurd q (by decide)⟩, by omega, by omega⟩
def sumL : List (List Int) → Nat
  | [] => 0
  | t :: r => t.length + 2 + sumL r
theorem joinL_sum (ts : List (List Int)) : (joinL ts).length ≤ sumL ts := by
  have h : ∀ r : List (List Int), (tailL r).length = sumL r := by
    intro r
    induction r with
    | nil => rfl
    | cons x r ih => rw [tailL, sumL, List.length_append, List.length_append, ih]; simp; omega
  cases ts with
  | nil => simp [joinL]
  | cons x r => rw [joinL, sumL, List.length_append, h]; omega
theorem kid0_sum (ts : List (List Int)) : (kidL ts 0).length ≤ sumL ts := by
  cases ts with
  | nil => simp [kidL]
  | cons x r => rw [sumL]; simp [kidL]; omega
theorem kid1_sum (ts : List (List Int)) : (kidL ts 0).length + (kidL ts 1).length ≤ sumL ts := by
  match ts with
  | [] => simp [kidL]
  | [x] => simp [kidL, sumL]
  | x :: y :: r => simp [kidL, sumL]; omega
theorem exL_len {l : List Sc} (hn : NamesS l) (k n tk tn : Int) (nm : List Int) (h8 : nm.length ≤ 8) (ts : List (List Int)) : (exL l k n tk tn nm ts).length ≤ 60 + sumL ts := by
  have h1 := joinL_sum ts
  have h2 := kid0_sum ts
  have h3 := kid1_sum ts
  have h4 := sayTy_len hn tk tn
  have h5 := hn.len n
  have h6 := decL_len n
  have h7 := hexL_len n
  have h9 : (opL n).length ≤ 2 := by unfold opL; repeat' split
                                     all_goals simp
  have h10 : (headL l k tk tn nm).length ≤ 25 := by
    unfold headL
    repeat' split
    all_goals simp
    all_goals omega
  unfold exL
  repeat' split
  all_goals simp only [List.length_append, List.length_cons, List.length_nil]
  all_goals omega
mutual
theorem Ex.run_fine {l : List Sc} (hn : NamesS l) : ∀ (x : Ex) (d l0 l1 : Int), x.good → Ex.run (l.length : Int) d l0 x = some l1 → Ex.FineI l x ∧ ((Ex.say l x).length : Int) + 2 ≤ 100 * (l0 - l1)
  | .mk k n tk tn nm ks, d, l0, l1, hg, h => by
    rw [Ex.run] at h
    rw [Ex.good] at hg
    split at h
    · cases h
    · rename_i hc
      have hh : hereE (l.length : Int) k n tk tn nm ks.length = true := by
        cases q : hereE (l.length : Int) k n tk tn nm ks.length
        · exact absurd (.inr (.inr q)) hc
        · rfl
      obtain ⟨a1, a2, a3, a4⟩ := hereE_ok hg.1 hh
      obtain ⟨b1, b2⟩ := Ex.runs_fine hn ks _ _ _ hg.2 h
      refine ⟨.mk a1 a2 b1, ?_⟩
      rw [Ex.say]
      have := exL_len hn k n tk tn nm a3 (Ex.says l ks)
      omega
theorem Ex.runs_fine {l : List Sc} (hn : NamesS l) : ∀ (xs : List Ex) (d l0 l1 : Int), Ex.goods xs → Ex.runs (l.length : Int) d l0 xs = some l1 → (∀ x ∈ xs, Ex.FineI l x) ∧ (sumL (Ex.says l xs) : Int) ≤ 100 * (l0 - l1)
  | [], d, l0, l1, hg, h => by rw [Ex.runs] at h; cases h; exact ⟨fun x hx => (List.not_mem_nil hx).elim, by rw [Ex.says, sumL]; omega⟩
  | x :: r, d, l0, l1, hg, h => by
    rw [Ex.runs] at h
    rw [Ex.goods] at hg
    split at h
    · cases h
    · rename_i l2 h2
      obtain ⟨a1, a2⟩ := Ex.run_fine hn x d l0 l2 hg.1 h2
      obtain ⟨b1, b2⟩ := Ex.runs_fine hn r d l2 l1 hg.2 h
      refine ⟨fun y hy => ?_, ?_⟩
      · rcases List.mem_cons.1 hy with rfl | hy
        · exact a1
        · exact b1 y hy
      · rw [Ex.says, sumL]; omega
end
theorem hereS_ok {l : List Sc} {k n tk tn : Int} {nm : List Int} {ks : List Ex} {b e : Nat} (h : hereS (l.length : Int) k n tk tn nm ks b e = true) : StNodeI l k tk tn nm ks.length ∧ nm.length ≤ 8 := by
  unfold hereS at h
  have hk : 0 ≤ k ∧ k ≤ 7 := by
    rcases Int.lt_or_le k 0 with q | q
    · have : formS k = none := by unfold formS; repeat (rw [if_neg (by omega)])
      rw [this] at h; cases h
    · rcases Int.lt_or_le 7 k with q2 | q2
      · have : formS k = none := by unfold formS; repeat (rw [if_neg (by omega)])
        rw [this] at h; cases h
      · exact ⟨q, q2⟩
  obtain rfl | rfl | rfl | rfl | rfl | rfl | rfl | rfl := eight hk.1 hk.2
  · have hf : formS 0 = some (0, 0, 0, 1, true, false, false) := rfl
    rw [hf] at h
    simp only [fitsB, Bool.and_eq_true, decide_eq_true_eq] at h
    obtain ⟨⟨⟨⟨⟨⟨⟨q1, q2⟩, q3⟩, q4⟩, q5⟩, _⟩, _⟩, _⟩ := h
    have q3' := name_tok (show nameL nm = true from q3)
    have q5' : TyFine l tk tn := tyB_fine (Int.le_refl _) (show tyB tk tn (l.length : Int) false = true from q5)
    exact ⟨⟨⟨by decide, by decide, fun _ => q3'.1, fun _ => q5'.2.2, fun q => absurd q (by decide), fun q => absurd q (by decide)⟩, fun _ => q3'.2.2, fun _ => q5', fun q => absurd q (by decide), fun q => absurd q (by decide), fun q => absurd q (by decide)⟩, by omega⟩
  · have hf : formS 1 = some (2, 2, 0, 0, false, false, false) := rfl
    rw [hf] at h
    simp only [fitsB, Bool.and_eq_true, decide_eq_true_eq] at h
    obtain ⟨⟨⟨⟨⟨⟨⟨q1, q2⟩, q3⟩, q4⟩, q5⟩, _⟩, _⟩, _⟩ := h
    have q3' : nm.length = 0 := by simpa using q3
    exact ⟨⟨⟨by decide, by decide, fun q => absurd q (by decide), fun q => absurd q (by decide), fun _ => by omega, fun q => absurd q (by decide)⟩, fun q => absurd q (by decide), fun q => absurd q (by decide), fun _ => by omega, fun q => absurd q (by decide), fun q => absurd q (by decide)⟩, by omega⟩
  · have hf : formS 2 = some (1, 1, 0, 0, false, true, true) := rfl
    rw [hf] at h
    simp only [fitsB, Bool.and_eq_true, decide_eq_true_eq] at h
    obtain ⟨⟨⟨⟨⟨⟨⟨q1, q2⟩, q3⟩, q4⟩, q5⟩, _⟩, _⟩, _⟩ := h
    have q3' : nm.length = 0 := by simpa using q3
    exact ⟨⟨⟨by decide, by decide, fun q => absurd q (by decide), fun q => absurd q (by decide), fun q => absurd q (by decide), fun _ => by omega⟩, fun q => absurd q (by decide), fun q => absurd q (by decide), fun q => absurd q (by decide), fun q => absurd q (by decide), fun q => absurd q (by decide)⟩, by omega⟩
  · have hf : formS 3 = some (1, 1, 0, 0, false, true, false) := rfl
    rw [hf] at h
    simp only [fitsB, Bool.and_eq_true, decide_eq_true_eq] at h
    obtain ⟨⟨⟨⟨⟨⟨⟨q1, q2⟩, q3⟩, q4⟩, q5⟩, _⟩, _⟩, _⟩ := h
    have q3' : nm.length = 0 := by simpa using q3
    exact ⟨⟨⟨by decide, by decide, fun q => absurd q (by decide), fun q => absurd q (by decide), fun q => absurd q (by decide), fun _ => by omega⟩, fun q => absurd q (by decide), fun q => absurd q (by decide), fun q => absurd q (by decide), fun q => absurd q (by decide), fun q => absurd q (by decide)⟩, by omega⟩
  · have hf : formS 4 = some (0, 1, 0, 0, false, false, false) := rfl
    rw [hf] at h
    simp only [fitsB, Bool.and_eq_true, decide_eq_true_eq] at h
    obtain ⟨⟨⟨⟨⟨⟨⟨q1, q2⟩, q3⟩, q4⟩, q5⟩, _⟩, _⟩, _⟩ := h
    have q3' : nm.length = 0 := by simpa using q3
    exact ⟨⟨⟨by decide, by decide, fun q => absurd q (by decide), fun q => absurd q (by decide), fun q => absurd q (by decide), fun q => absurd q (by decide)⟩, fun q => absurd q (by decide), fun q => absurd q (by decide), fun q => absurd q (by decide), fun _ => by omega, fun q => absurd q (by decide)⟩, by omega⟩
  · have hf : formS 5 = some (1, 1, 0, 0, false, false, false) := rfl
    rw [hf] at h
    simp only [fitsB, Bool.and_eq_true, decide_eq_true_eq] at h
    obtain ⟨⟨⟨⟨⟨⟨⟨q1, q2⟩, q3⟩, q4⟩, q5⟩, _⟩, _⟩, _⟩ := h
    have q3' : nm.length = 0 := by simpa using q3
    exact ⟨⟨⟨by decide, by decide, fun q => absurd q (by decide), fun q => absurd q (by decide), fun q => absurd q (by decide), fun _ => by omega⟩, fun q => absurd q (by decide), fun q => absurd q (by decide), fun q => absurd q (by decide), fun q => absurd q (by decide), fun _ => by omega⟩, by omega⟩
  · have hf : formS 6 = some (1, 1, 0, 0, false, false, false) := rfl
    rw [hf] at h
    simp only [fitsB, Bool.and_eq_true, decide_eq_true_eq] at h
    obtain ⟨⟨⟨⟨⟨⟨⟨q1, q2⟩, q3⟩, q4⟩, q5⟩, _⟩, _⟩, _⟩ := h
    have q3' : nm.length = 0 := by simpa using q3
    exact ⟨⟨⟨by decide, by decide, fun q => absurd q (by decide), fun q => absurd q (by decide), fun q => absurd q (by decide), fun _ => by omega⟩, fun q => absurd q (by decide), fun q => absurd q (by decide), fun q => absurd q (by decide), fun q => absurd q (by decide), fun _ => by omega⟩, by omega⟩
  · have hf : formS 7 = some (1, 1, 0, 0, false, false, false) := rfl
    rw [hf] at h
    simp only [fitsB, Bool.and_eq_true, decide_eq_true_eq] at h
    obtain ⟨⟨⟨⟨⟨⟨⟨q1, q2⟩, q3⟩, q4⟩, q5⟩, _⟩, _⟩, _⟩ := h
    have q3' : nm.length = 0 := by simpa using q3
    exact ⟨⟨⟨by decide, by decide, fun q => absurd q (by decide), fun q => absurd q (by decide), fun q => absurd q (by decide), fun _ => by omega⟩, fun q => absurd q (by decide), fun q => absurd q (by decide), fun q => absurd q (by decide), fun q => absurd q (by decide), fun _ => by omega⟩, by omega⟩
theorem stL_len {l : List Sc} (hn : NamesS l) (k tk tn : Int) (nm : List Int) (h8 : nm.length ≤ 8) (ts : List (List Int)) (b e : List Int) : (stL l k tk tn nm ts b e).length ≤ 60 + sumL ts + b.length + e.length := by
  have h2 := kid0_sum ts
  have h3 := kid1_sum ts
  have h4 := sayTy_len hn tk tn
  have hb : ∀ t, (blockL t).length = t.length + 4 := fun t => by unfold blockL; simp
  have b1 := hb b
  have e1 := hb e
  unfold stL
  repeat' split
  all_goals simp only [List.length_append, List.length_cons, List.length_nil, List.length_drop]
  all_goals omega
mutual
theorem St.run_fine {l : List Sc} (hn : NamesS l) : ∀ (x : St) (d l0 l1 : Int), x.good → l0 ≤ 400 → St.run (l.length : Int) d l0 x = some l1 → St.FineI l x ∧ ((St.say l x).length : Int) ≤ 100 * (l0 - l1)
  | .mk k n tk tn nm ks bo el, d, l0, l1, hg, h400, h => by
    have hle := St.run_le _ _ _ _ _ h
    rw [St.run] at h
    rw [St.good] at hg
    split at h
    · cases h
    · rename_i hc
      split at h
      · cases h
      · rename_i m1 h1
        split at h
        · cases h
        · rename_i m2 h2
          have hh : hereS (l.length : Int) k n tk tn nm ks bo.length el.length = true := by
            cases q : hereS (l.length : Int) k n tk tn nm ks bo.length el.length
            · exact absurd (.inr (.inr q)) hc
            · rfl
          obtain ⟨a1, a2⟩ := hereS_ok hh
          have c1 := Ex.runs_le _ _ _ _ _ h1
          have c2 := St.runs_le _ _ _ _ _ h2
          have c3 := St.runs_le _ _ _ _ _ h
          have d1 := c1.2 (by omega)
          have d2 := c2.2 d1
          have d3 := c3.2 d2
          obtain ⟨b1, b2⟩ := Ex.runs_fine hn ks _ _ _ hg.2.1 h1
          obtain ⟨b3, b4, b5⟩ := St.runs_fine hn bo _ _ _ hg.2.2.1 (by omega) h2
          obtain ⟨b6, b7, b8⟩ := St.runs_fine hn el _ _ _ hg.2.2.2 (by omega) h
          refine ⟨.mk a1 ⟨by omega, by omega⟩ b1 b3 b6, ?_⟩
          rw [St.say]
          have := stL_len hn k tk tn nm a2 (Ex.says l ks) (St.says l bo) (St.says l el)
          omega
theorem St.runs_fine {l : List Sc} (hn : NamesS l) : ∀ (xs : List St) (d l0 l1 : Int), St.goods xs → l0 ≤ 400 → St.runs (l.length : Int) d l0 xs = some l1 → (∀ x ∈ xs, St.FineI l x) ∧ ((St.says l xs).length : Int) ≤ 100 * (l0 - l1) ∧ (xs.length : Int) ≤ l0 - l1
  | [], d, l0, l1, hg, _, h => by rw [St.runs] at h; cases h; exact ⟨fun x hx => (List.not_mem_nil hx).elim, by rw [St.says]; simp, by simp⟩
  | x :: r, d, l0, l1, hg, h400, h => by
    rw [St.runs] at h
    rw [St.goods] at hg
    split at h
    · cases h
    · rename_i l2 h2
      have hle := St.run_le _ _ _ _ _ h2
      obtain ⟨a1, a2⟩ := St.run_fine hn x d l0 l2 hg.1 h400 h2
      obtain ⟨b1, b2, b3⟩ := St.runs_fine hn r d l2 l1 hg.2 (by omega) h
      refine ⟨fun y hy => ?_, ?_, ?_⟩
      · rcases List.mem_cons.1 hy with rfl | hy
        · exact a1
        · exact b1 y hy
      · rw [St.says, List.length_append]; omega
      · rw [List.length_cons]; omega
end
theorem paramB_fine {l : List Sc} {most s : Int} {xs : List Pa} (hs : s ≤ l.length) (h : paramB most s xs = true) : (xs.length : Int) ≤ most ∧ ∀ p ∈ xs, PaFineI l p ∧ p.name.length ≤ 8 := by
  unfold paramB at h
  rw [Bool.and_eq_true, decide_eq_true_eq, List.all_eq_true] at h
  refine ⟨h.1, fun p hp => ?_⟩
  have := h.2 p hp
  unfold paOk at this
  rw [Bool.and_eq_true] at this
  have hn := name_tok this.1
  exact ⟨⟨hn.1, hn.2.2, tyB_fine hs this.2⟩, hn.2.1⟩
theorem paL_len {l : List Sc} (hn : NamesS l) (p : Pa) (h : p.name.length ≤ 8) : (paL l p).length ≤ 23 := by
  have := sayTy_len hn p.tk p.tn
  unfold paL
  rw [List.length_append]
  omega
structure SoFineI (x : So) : Prop where
  names : NamesTok x.structs
  fs : ∀ s ∈ x.structs, ∀ p ∈ s.fields, PaFineI x.structs p
  few : ∀ s ∈ x.structs, s.fields.length ≤ 1000
  fu : ∀ f ∈ x.funcs, FuFineI x.structs f
  few1 : x.structs.length ≤ 1000
  few2 : x.funcs.length ≤ 1000
  len : x.text.length ≤ 900000
theorem SoFineI.fine {x : So} (h : SoFineI x) : SoFine x := ⟨h.names.fit, fun s hs p hp => (h.fs s hs p hp).fine, h.few, fun f hf => (h.fu f hf).fine, h.few1, h.few2, by have := h.len; omega⟩
theorem fieldsL_len {l : List Sc} (hn : NamesS l) : ∀ (xs : List Pa), (∀ p ∈ xs, p.name.length ≤ 8) → (fieldsL l xs).length ≤ 26 * xs.length
  | [], _ => by simp [fieldsL]
  | p :: r, h => by
    have a := paL_len hn p (h p (List.mem_cons_self ..))
    have b := fieldsL_len hn r (fun q hq => h q (List.mem_cons_of_mem _ hq))
    rw [fieldsL]
    simp only [List.length_append, List.length_cons, List.length_nil]
    omega
theorem scsL_len {l : List Sc} (hn : NamesS l) : ∀ (xs : List Sc), (∀ x ∈ xs, x.name.length ≤ 8 ∧ x.fields.length ≤ 5 ∧ ∀ p ∈ x.fields, p.name.length ≤ 8) → (scsL l xs).length ≤ 200 * xs.length
  | [], _ => by simp [scsL]
  | x :: r, h => by
    obtain ⟨h1, h2, h3⟩ := h x (List.mem_cons_self ..)
    have a := fieldsL_len hn x.fields h3
    have b := scsL_len hn r (fun q hq => h q (List.mem_cons_of_mem _ hq))
    rw [scsL]
    unfold scL
    simp only [List.length_append, List.length_cons, List.length_nil]
    omega
theorem params_len {l : List Sc} (hn : NamesS l) : ∀ (xs : List Pa), (∀ p ∈ xs, p.name.length ≤ 8) → sumL (xs.map fun p => 32 :: paL l p) ≤ 26 * xs.length
  | [], _ => by simp [sumL]
  | p :: r, h => by
    have a := paL_len hn p (h p (List.mem_cons_self ..))
    have b := params_len hn r (fun q hq => h q (List.mem_cons_of_mem _ hq))
    rw [List.map_cons, sumL]
    simp only [List.length_cons]
    omega
theorem Fu.run_fine {l : List Sc} (hn : NamesS l) (x : Fu) (l0 l1 : Int) (hg : x.good) (h0 : 0 ≤ l0) (h400 : l0 ≤ 400) (h : Fu.run (l.length : Int) l0 x = some l1) : FuFineI l x ∧ ((fuL l x).length : Int) ≤ 200 + 100 * (l0 - l1) := by
  unfold Fu.run headF at h
  split at h
  · rename_i hc
    rw [Bool.and_eq_true, Bool.and_eq_true] at hc
    obtain ⟨⟨c1, c2⟩, c3⟩ := hc
    have n1 := name_tok c1
    obtain ⟨p1, p2⟩ := paramB_fine (Int.le_refl _) c2
    have t1 := tyB_fine (Int.le_refl _) c3
    obtain ⟨b1, b2, b3⟩ := St.runs_fine hn x.body _ _ _ hg h400 h
    have hle := (St.runs_le _ _ _ _ _ h).2 h0
    refine ⟨⟨n1.1, n1.2.2, fun p hp => (p2 p hp).1, by omega, t1, by omega, b1⟩, ?_⟩
    have a1 := joinL_sum (x.params.map fun p => 32 :: paL l p)
    have a2 := params_len hn x.params (fun p hp => (p2 p hp).2)
    have a3 := sayTy_len hn x.rk x.rn
    unfold fuL blockL
    simp only [List.length_append, List.length_cons, List.length_nil]
    omega
  · cases h
theorem Fu.runs_fine {l : List Sc} (hn : NamesS l) : ∀ (xs : List Fu) (l0 l1 : Int), (∀ x ∈ xs, x.good) → 0 ≤ l0 → l0 ≤ 400 → Fu.runs (l.length : Int) l0 xs = some l1 → (∀ x ∈ xs, FuFineI l x) ∧ ((fusL l xs).length : Int) ≤ 200 * xs.length + 100 * (l0 - l1)
  | [], l0, l1, hg, _, _, h => by rw [Fu.runs] at h; cases h; exact ⟨fun x hx => (List.not_mem_nil hx).elim, by simp [fusL]⟩
  | x :: r, l0, l1, hg, h0, h400, h => by
    rw [Fu.runs] at h
    split at h
    · cases h
    · rename_i l2 h2
      obtain ⟨a1, a2⟩ := Fu.run_fine hn x l0 l2 (hg x (List.mem_cons_self ..)) h0 h400 h2
      have hle : l2 ≤ l0 ∧ (0 ≤ l0 → 0 ≤ l2) := by
        have := Fu.runs_le (l.length : Int) [x] l0 l2 (by rw [Fu.runs, h2]; rfl)
        exact this
      obtain ⟨b1, b2⟩ := Fu.runs_fine hn r l2 l1 (fun y hy => hg y (List.mem_cons_of_mem _ hy)) (hle.2 h0) (by omega) h
      refine ⟨fun y hy => ?_, ?_⟩
      · rcases List.mem_cons.1 hy with rfl | hy
        · exact a1
        · exact b1 y hy
      · rw [fusL, List.length_append, List.length_cons]; omega
theorem So.run_fine {x : So} {q : Int} (hg : Fu.goods x.funcs) (h : So.run x = some q) : SoFineI x := by
  unfold So.run at h
  split at h
  · rename_i hc
    rw [Bool.and_eq_true, decide_eq_true_eq, structB_iff] at hc
    obtain ⟨⟨h6, hone⟩, h8⟩ := hc
    have hone' : ∀ s ∈ x.structs, (1 ≤ s.name.length ∧ s.name.length ≤ 8 ∧ midB s.name = true) ∧ s.fields.length ≤ 5 ∧ ∀ p ∈ s.fields, PaFineI x.structs p ∧ p.name.length ≤ 8 := fun s hs => by
      obtain ⟨i, hi, rfl⟩ := List.mem_iff_getElem.1 hs
      have := hone i hi
      unfold oneB at this
      rw [Bool.and_eq_true, Bool.and_eq_true] at this
      obtain ⟨p1, p2⟩ := paramB_fine (l := x.structs) (by omega) this.2
      exact ⟨word_tok this.1.1, by omega, p2⟩
    have hn : NamesS x.structs := fun s hs => (hone' s hs).1
    have hgm : ∀ f ∈ x.funcs, f.good := fun f hf => by
      obtain ⟨i, hi, rfl⟩ := List.mem_iff_getElem.1 hf
      exact hg i hi
    obtain ⟨a1, a2⟩ := Fu.runs_fine hn x.funcs 400 q hgm (by omega) (Int.le_refl _) h
    have hq := (Fu.runs_le _ _ _ _ h).2 (by omega)
    have a3 := scsL_len hn x.structs (fun s hs => ⟨(hone' s hs).1.2.1, (hone' s hs).2.1, fun p hp => ((hone' s hs).2.2 p hp).2⟩)
    refine ⟨hn.tok, fun s hs p hp => ((hone' s hs).2.2 p hp).1, fun s hs => by have := (hone' s hs).2.1; omega, a1, by omega, by omega, ?_⟩
    unfold So.text
    rw [List.length_append]
    omega
  · cases h
end Go.Proofs.YtbigjeejmacjcaaGreatDoor
/- The program's Print. -/
namespace Go.Proofs.YtbigjeejmacjcaaGreatDoor
open Go.RowKit Go.Lib
theorem scL_line (l : List Sc) (x : Sc) (b : List Int) : midB (b ++ scL l x) = false := by
  unfold scL
  rw [show ([125, 10] : List Int) = [125] ++ [10] from rfl, ← List.append_assoc, ← List.append_assoc]
  exact midB_line _
theorem fuL_line (l : List Sc) (x : Fu) (b : List Int) : midB (b ++ fuL l x) = false := by
  unfold fuL
  rw [← List.append_assoc]
  exact midB_line _
theorem buildPr (a : Option Addr) (n c : Nat) (w : World) : (Instr.build 49 #[(0, .slice a n c)]).run Tryz.prog w = .ok (.agg #[.slice a n c, .slice none 0 0]) w := run_build w 49 _ _ (by kernel_rfl)
/-- What Print answers. -/
def IPrintP (x : So) (w : World) (e : Ending) (w' : World) : Prop := Later w w' ∧ ((x.run.isSome = true ∧ x.text.length ≤ 6000 ∧ ∃ v, e = .returned (.tuple #[v, .bool true]) ∧ w'.ownsRow w.heap.size 5 1 v x.text.length (x.text.map (Value.int .u8))) ∨ (¬ (x.run.isSome = true ∧ x.text.length ≤ 6000) ∧ e = .returned (.tuple #[.slice none 0 0, .bool false])))
set_option maxRecDepth 100000 in
set_option maxHeartbeats 4000000 in
theorem iprint_any (x : So) (v0 v1 : Value) (w : World) (hE : Env w) (hg : Fu.goods x.funcs) (h0 : RdL w 2 v0 (Sc.dats x.structs)) (h1 : RdL w 5 v1 (Fu.dats x.funcs)) :
    Calls Tryz.prog 7 #[.agg #[v0, v1]] w (IPrintP x w) := by
  obtain ⟨sa, scap, rfl, hsl⟩ := Sc.slice h0
  obtain ⟨fa, fcap, rfl, hfl⟩ := Fu.slice h1
  obtain ⟨w1, hw1⟩ := hid_ex (w.alloc (.cells #[.slice sa x.structs.length scap, .slice fa x.funcs.length fcap] 33))
  have hbx : BxT w.heap.size w1 [.slice sa x.structs.length scap, .slice fa x.funcs.length fcap] 33 := by rw [hw1.out]; exact BxT.new w _ _
  have hL1 : Later w w1 := by rw [hw1.out]; exact later1 _ _
  have hC := icount_any x _ _ w1 hg (h0.later hL1) (h1.later hL1)
  have hsz : w.heap.size < w1.heap.size := by rw [hw1.out]; simp
  have hfine := fun q (h : So.run x = some q) => So.run_fine hg h
  obtain ⟨l, fu⟩ := x
  have hfine' : So.run (.mk l fu) ≠ none → SoFineI (.mk l fu) := fun h => by
    cases e : So.run (.mk l fu) with
    | none => exact absurd e h
    | some q => exact hfine q e
  replace h0 : RdL w 2 (.slice sa l.length scap) (Sc.dats l) := h0
  replace h1 : RdL w 5 (.slice fa fu.length fcap) (Fu.dats fu) := h1
  replace hbx : BxT w.heap.size w1 [.slice sa l.length scap, .slice fa fu.length fcap] 33 := hbx
  replace hC : Calls Tryz.prog 19 #[.agg #[.slice sa l.length scap, .slice fa fu.length fcap]] w1 (CntP (.mk l fu) w1) := hC
  replace hw1 : Hid (w1 = w.alloc (.cells #[.slice sa l.length scap, .slice fa fu.length fcap] 33)) := hw1
  show Calls Tryz.prog 7 #[.agg #[.slice sa l.length scap, .slice fa fu.length fcap]] w (IPrintP (.mk l fu) w)
  obtain ⟨x, hx⟩ := hid_ex (So.mk l fu)
  rw [← hx.out] at hC hfine' ⊢
  have htx : Hid (x.text = scsL l l ++ fusL l fu) := by rw [hx.out]; rfl
  have hHC := hC
  clear hC hfine hg
  go_enter Tryz.func7, Tryz.ntmps7
  go_wp2_with fail
  rw [← hw1.out]
  refine hHC.mono ?_
  rintro e w2 ⟨rfl, hL2⟩
  have HN : Hid (∀ w', Later w w' → ¬ (x.run.isSome = true ∧ x.text.length ≤ 6000) → IPrintP x w (.returned (.tuple #[.slice none 0 0, .bool false])) w') := fun w' hw hn => ⟨hw, .inr ⟨hn, rfl⟩⟩
  have HY : Hid (∀ w' v, Later w w' → x.run.isSome = true → x.text.length ≤ 6000 → w'.ownsRow w.heap.size 5 1 v x.text.length (x.text.map (Value.int .u8)) → IPrintP x w (.returned (.tuple #[v, .bool true])) w') := fun w' v hw hr hl ho => ⟨hw, .inl ⟨hr, hl, v, rfl, ho⟩⟩
  generalize hQ : IPrintP x w = Q at *
  clear hQ
  have hL12 := hL1.trans hL2
  have hsz2 : w.heap.size < w2.heap.size := Nat.lt_of_lt_of_le hsz hL2.size
  have hbx2 : BxT w.heap.size w2 [.slice sa l.length scap, .slice fa fu.length fcap] 33 := by unfold BxT at hbx ⊢; rw [hL2.block _ hsz]; exact hbx
  generalize hpt : So.parts x = pt
  clear hpt
  cases hr : x.run.isSome with
  | false =>
    have HN' := HN.out _ hL12 (by rw [hr]; rintro ⟨h, _⟩; cases h)
    clear HN HY
    go_wp2_with fail
    exact HN'
  | true =>
    have hF := hfine' (by intro e; rw [e] at hr; cases hr)
    have hnm : NamesTok l := by have := hF.names; rw [hx.out] at this; exact this
    have hfs : ∀ s ∈ l, ∀ p ∈ s.fields, PaFineI l p := by have := hF.fs; rw [hx.out] at this; exact this
    have hfw : ∀ s ∈ l, s.fields.length ≤ 1000 := by have := hF.few; rw [hx.out] at this; exact this
    have hfu : ∀ f ∈ fu, FuFineI l f := by have := hF.fu; rw [hx.out] at this; exact this
    have hln : (scsL l l).length + (fusL l fu).length ≤ 900000 := by have := hF.len; rw [htx.out, List.length_append] at this; exact this
    have hl1 : l.length ≤ 1000 := by have := hF.few1; rw [hx.out] at this; exact this
    have hl2 : fu.length ≤ 1000 := by have := hF.few2; rw [hx.out] at this; exact this
    have hHr : Hid (x.run.isSome = true) := hr
    clear hr hF hfine'
    have q0 := hbx2.cell 0 _ rfl
    have q1 := hbx2.cell 1 _ rfl
    obtain ⟨w3, hw3⟩ := hid_ex (w2.alloc (.cells #[.slice sa l.length scap, .slice none 0 0] 49))
    have hp3 : Pr w2.heap.size w3 w w3 (.slice sa l.length scap) (.slice none 0 0) [] := by
      refine ⟨?_, World.ownsRow_nil _ _ _ _, ?_, Nat.le_of_lt hsz2, KP.refl _ _⟩
      · rw [hw3.out]; show (w2.heap.push _)[w2.heap.size]? = _; simp
      · rw [hw3.out]; exact hL12.trans (later1 _ _)
    have hbx3 : BxT w.heap.size w3 [.slice sa l.length scap, .slice fa fu.length fcap] 33 := by unfold BxT at hbx2 ⊢; rw [hw3.out, (later1 w2 _).block _ hsz2]; exact hbx2
    have HC : Hid (∀ w', KP w2.heap.size w3 w' → w'.cell? ⟨w.heap.size, 1, none⟩ = some (.slice fa fu.length fcap)) := hbx3.kp (by decide) (by omega) 1 _ rfl
    have hbp := buildPr sa l.length scap w2
    have HE0 : Hid (∀ (j : Nat) (hj : j < l.length), ∃ g off x0 y0 z0 x1 y1 z1, sa = some ⟨g, off, none⟩ ∧ RdN w (.slice x0 y0 z0) l[j].name ∧ RdL w 3 (.slice x1 y1 z1) (Pa.dats l[j].fields) ∧ ∀ w', Later w w' → w'.cell? ⟨g, off + j * 2, none⟩ = some (.slice x0 y0 z0) ∧ w'.cell? ⟨g, off + j * 2 + 1, none⟩ = some (.slice x1 y1 z1)) := fun j hj => by
      obtain ⟨g, off, u0, u1, e, hgs, c0, c1, r0, r1⟩ := Sc.elem h0 j hj
      obtain ⟨b0, p0, rfl, _⟩ := r0.slice
      obtain ⟨b1, p1, rfl, _⟩ := Pa.slice r1
      exact ⟨g, off, b0, _, p0, b1, _, p1, e, r0, r1, fun w' hw => ⟨by rw [hw.cell (p := ⟨g, off + j * 2, none⟩) hgs]; exact c0, by rw [hw.cell (p := ⟨g, off + j * 2 + 1, none⟩) hgs]; exact c1⟩⟩
    have HE1 : Hid (∀ (j : Nat) (hj : j < fu.length), ∃ g off x0 y0 z0 x1 y1 z1 x2 y2 z2, fa = some ⟨g, off, none⟩ ∧ RdN w (.slice x0 y0 z0) fu[j].name ∧ RdL w 3 (.slice x1 y1 z1) (Pa.dats fu[j].params) ∧ RdL w 8 (.slice x2 y2 z2) (St.dats fu[j].body) ∧ ∀ w', Later w w' → w'.cell? ⟨g, off + j * 5, none⟩ = some (.slice x0 y0 z0) ∧ w'.cell? ⟨g, off + j * 5 + 1, none⟩ = some (.slice x1 y1 z1) ∧ w'.cell? ⟨g, off + j * 5 + 2, none⟩ = some (.int .i64 fu[j].rk) ∧ w'.cell? ⟨g, off + j * 5 + 3, none⟩ = some (.int .i64 fu[j].rn) ∧ w'.cell? ⟨g, off + j * 5 + 4, none⟩ = some (.slice x2 y2 z2)) := fun j hj => by
      obtain ⟨g, off, u0, u1, u2, e, hgs, c0, c1, c2, c3, c4, r0, r1, r2⟩ := Fu.elem h1 j hj
      obtain ⟨b0, p0, rfl, _⟩ := r0.slice
      obtain ⟨b1, p1, rfl, _⟩ := Pa.slice r1
      obtain ⟨b2, p2, rfl, _⟩ := St.slice r2
      exact ⟨g, off, b0, _, p0, b1, _, p1, b2, _, p2, e, r0, r1, r2, fun w' hw => ⟨by rw [hw.cell (p := ⟨g, off + j * 5, none⟩) hgs]; exact c0, by rw [hw.cell (p := ⟨g, off + j * 5 + 1, none⟩) hgs]; exact c1, by rw [hw.cell (p := ⟨g, off + j * 5 + 2, none⟩) hgs]; exact c2, by rw [hw.cell (p := ⟨g, off + j * 5 + 3, none⟩) hgs]; exact c3, by rw [hw.cell (p := ⟨g, off + j * 5 + 4, none⟩) hgs]; exact c4⟩⟩
    have HP3 : Hid (Pr w2.heap.size w3 w w3 (.slice sa l.length scap) (.slice none 0 0) []) := hp3
    clear hbx hbx2 hbx3 hp3
    go_wp2_with fail
    go_loopw [24] (fun i wr => ∃ (j : Nat) (tv' : Value), i = .int .i64 (j : Int) ∧ j ≤ l.length ∧ midB (scsL l (l.take j)) = false ∧ Pr w2.heap.size w3 w wr (.slice sa l.length scap) tv' (scsL l (l.take j))) (fun i _ => l.length - (RowKit.intOf i).toNat)
    case atStart => exact ⟨0, _, rfl, Nat.zero_le _, by rw [List.take_zero, scsL]; rfl, by rw [List.take_zero, scsL, ← hw3.out]; exact HP3.out⟩
    case round =>
      obtain ⟨j, tv', rfl, hj, hmj, hp⟩ := hrel
      by_cases hlt : j < l.length
      · obtain ⟨g, off, x0, y0, z0, x1, y1, z1, e1, r0, r1, hcl⟩ := HE0.out j hlt
        subst e1
        obtain ⟨d0, d1⟩ := hcl _ hp.lat
        have hst := scsL_step l l j hlt
        have hpr := scsL_pre l l (j + 1)
        rw [hst, List.length_append] at hpr
        have hmem := List.getElem_mem hlt
        have hN := hnm _ hmem
        have i1 : (j : Int) < (l.length : Int) := by omega
        have hpb := hp.alloc (.cells #[.slice x0 y0 z0, .slice x1 y1 z1] 52)
        have hmn : midB (scsL l (l.take (j + 1))) = false := by rw [hst]; exact scL_line l _ _
        have hst' : Hid (scsL l (l.take (j + 1)) = scsL l (l.take j) ++ scL l l[j]) := hst
        clear hcl hst
        go_wp2_with fail
        refine (structure_any w2.heap.size w3 w _ _ tv' _ _ _ l l[j] hpb h0 hnm hN.1.1 hN.2 (hfw _ hmem) (hfs _ hmem) r0 r1 hmj (by omega)).mono ?_
        rintro e w4 ⟨rfl, t4, hp4⟩
        rw [← hst'.out] at hp4
        go_wp2_with fail
        go_roundw
        case rel => exact ⟨j + 1, _, by go_num, by omega, hmn, hp4⟩
        case measure => simp [RowKit.intOf]; omega
      · have hje : j = l.length := by omega
        have i1 : ¬ (j : Int) < (l.length : Int) := by omega
        rw [hje, List.take_length] at hp hmj
        have q1 := HC.out _ hp.kp
        go_wp2_with fail
        go_loopw [34] (fun i wf => ∃ (m : Nat) (tf : Value), i = .int .i64 (m : Int) ∧ m ≤ fu.length ∧ midB (scsL l l ++ fusL l (fu.take m)) = false ∧ Pr w2.heap.size w3 w wf (.slice sa l.length scap) tf (scsL l l ++ fusL l (fu.take m))) (fun i _ => fu.length - (RowKit.intOf i).toNat)
        case atStart => exact ⟨0, _, rfl, Nat.zero_le _, by rw [List.take_zero, fusL, List.append_nil]; exact hmj, by rw [List.take_zero, fusL, List.append_nil]; exact hp⟩
        case round =>
          obtain ⟨m, tf, rfl, hm, hmm, hpf⟩ := hrel
          by_cases hlt2 : m < fu.length
          · obtain ⟨g, off, x0, y0, z0, x1, y1, z1, x2, y2, z2, e1, r0, r1, r2, hcl⟩ := HE1.out m hlt2
            subst e1
            obtain ⟨d0, d1, d2, d3, d4⟩ := hcl _ hpf.lat
            have hst := fusL_step l fu m hlt2
            have hpr := fusL_pre l fu (m + 1)
            rw [hst, List.length_append] at hpr
            have hmem := List.getElem_mem hlt2
            have i2 : (m : Int) < (fu.length : Int) := by omega
            have hpb := hpf.alloc (.cells #[.slice x0 y0 z0, .slice x1 y1 z1, .int .i64 fu[m].rk, .int .i64 fu[m].rn, .slice x2 y2 z2] 58)
            have hst' : Hid (scsL l l ++ fusL l (fu.take m) ++ fuL l fu[m] = scsL l l ++ fusL l (fu.take (m + 1))) := by show _ = _; rw [hst, List.append_assoc]
            have hmn : midB (scsL l l ++ fusL l (fu.take (m + 1))) = false := by rw [← hst'.out]; exact fuL_line l _ _
            have hll : (scsL l l ++ fusL l (fu.take m)).length = (scsL l l).length + (fusL l (fu.take m)).length := List.length_append
            clear hcl hst
            go_wp2_with fail
            refine (function_any w2.heap.size w3 w _ _ tf _ _ _ _ l fu[m] hpb hE h0 hnm (hfu _ hmem) r0 r1 r2 hmm (by omega)).mono ?_
            rintro e w4 ⟨rfl, t4, hp4⟩
            rw [hst'.out] at hp4
            go_wp2_with fail
            go_roundw
            case rel => exact ⟨m + 1, _, by go_num, by omega, hmn, hp4⟩
            case measure => simp [RowKit.intOf]; omega
          · have hme : m = fu.length := by omega
            have i2 : ¬ (m : Int) < (fu.length : Int) := by omega
            rw [hme, List.take_length, ← htx.out] at hpf
            have hlt : x.text.length ≤ 900000 := by rw [htx.out, List.length_append]; exact hln
            obtain ⟨ta, M, tc, rfl, hM⟩ := hpf.shape
            have qt := hpf.text
            have hMl : M ≤ 900000 := by rw [hM.out]; exact hlt
            by_cases h6 : x.text.length ≤ 6000
            · have HA := HY.out _ _ hpf.lat hHr.out h6 hpf.own
              have i3 : ¬ (6000 : Int) < (M : Int) := by rw [hM.out]; omega
              clear HN HY
              go_wp2_with fail
              exact HA
            · have HA := HN.out _ hpf.lat (fun h => h6 h.2)
              have i3 : (6000 : Int) < (M : Int) := by rw [hM.out]; omega
              clear HN HY
              go_wp2_with fail
              exact HA
end Go.Proofs.YtbigjeejmacjcaaGreatDoor
/- What the printer takes from the library: decimals. -/
namespace Go.Proofs.YtbigjeejmacjcaaGreatDoor
open Go.RowKit Go.Lib
theorem digF_dec : ∀ (f u : Nat), u < 10 ^ f → 1 ≤ f → digF f u = (decDigits u).map fun b => (b.toNat : Int)
  | 0, u, _, h => absurd h (by omega)
  | f + 1, u, hu, _ => by
    rw [digF, decDigits]
    by_cases h : u < 10
    · rw [if_pos h, dif_pos h, List.map_cons, List.map_nil, UInt8.toNat_ofNat']
      congr 1
      omega
    · rw [if_neg h, dif_neg h, List.map_append, List.map_cons, List.map_nil, UInt8.toNat_ofNat']
      have hf : 1 ≤ f := by
        rcases Nat.eq_zero_or_pos f with h0 | h0
        · rw [h0] at hu; simp at hu; omega
        · exact h0
      rw [digF_dec f (u / 10) (by rw [Nat.pow_succ] at hu; omega) hf]
      congr 2
      omega
theorem bytes_itoa (n : Int) (hn : InR n) : bytesOf ⟨(itoa n).toArray⟩ = decL n := by
  unfold InR at hn
  show ((itoa n).toArray.toList.map fun b => (b.toNat : Int)) = _
  rw [List.toList_toArray]
  unfold itoa decL
  by_cases h : n < 0
  · rw [if_pos h, if_pos h, List.map_cons, digF_dec 20 _ (by have : (10 : Nat) ^ 20 = 100000000000000000000 := by decide
                                                             omega) (by decide)]
    have : n.natAbs = (-n).toNat := by omega
    rw [this]
    rfl
  · rw [if_neg h, if_neg h, digF_dec 20 _ (by have : (10 : Nat) ^ 20 = 100000000000000000000 := by decide
                                              omega) (by decide)]
theorem later_grow (w : World) (k : Nat) (os : Array Obj) : Later w (Sort.grow (w.drewN k) os) := by
  refine ⟨rfl, rfl, rfl, ?_, fun b hb => ?_⟩
  · show w.heap.size ≤ (w.heap ++ os).size
    simp
  · show (w.heap ++ os)[b]? = w.heap[b]?
    rw [Array.getElem?_append_left hb]
theorem ito_any (nm : String) (hname : nm = "internal/strconv.uint64pow10") (n : Int) (w : World) (hn : InR n) (ht : TabIs Tryz.prog w nm .u64 pow10Tab) : Calls Tryz.prog 106 #[.int .i64 n] w (StrL w (decL n)) := by
  subst hname
  refine (Tryz.strconv_Itoa n hn.1 hn.2 w ht).mono ?_
  rintro e w' ⟨rfl, k, os, rfl⟩
  exact ⟨_, rfl, bytes_itoa n hn, later_grow w k os⟩
end Go.Proofs.YtbigjeejmacjcaaGreatDoor
/- What the printer takes from the library: bits as sixteen digits. -/
namespace Go.Proofs.YtbigjeejmacjcaaGreatDoor
open Go.RowKit Go.Lib
set_option maxRecDepth 20000 in
set_option maxHeartbeats 1000000 in
theorem tz_16 (w : World) (h : w.cell? ⟨5, 15, none⟩ = some (.int .u8 4)) : Calls Tryz.prog 151 #[.int .u64 16] w fun e w' => e = .returned (.int .i64 4) ∧ w' = w := by
  have e1 : IntKind.u64.wrap (bits .and .u64 16 (IntKind.u64.wrap (-16)) * 285870213051353865) / 288230376151711744 = 15 := by decide
  have hA : Calls Tryz.prog 155 #[.int .u64 16] w fun e w' => e = .returned (.int .i64 4) ∧ w' = w := by
    go_enter Tryz.func155, Tryz.ntmps155
    go_wp2_with fail
    go_ret
    exact ⟨rfl, rfl⟩
  clear e1 h
  go_enter Tryz.func151, Tryz.ntmps151
  go_wp2_with (go_at_call 155; refine hA.mono ?_; rintro e w2 ⟨rfl, hw⟩; obtain rfl := hw.symm)
  go_ret
  exact ⟨rfl, rfl⟩
set_option maxRecDepth 20000 in
theorem pow_16 (w : World) : Calls Tryz.prog 150 #[.int .i64 16] w fun e w' => e = .returned (.bool true) ∧ w' = w := by
  have e1 : bits .and .i64 16 15 = 0 := by decide
  go_enter Tryz.func150, Tryz.ntmps150
  go_wp2_with fail
  go_ret
  exact ⟨rfl, rfl⟩
theorem hexF_cons (k u : Nat) : hexF (k + 1) u = hexD (u / 16 ^ k % 16) :: hexF k u := by
  induction k generalizing u with
  | zero => rw [hexF, hexF, hexF, Nat.pow_zero, Nat.div_one]; rfl
  | succ k ih => rw [hexF, ih, hexF, Nat.div_div_eq_div_mul, Nat.pow_succ, Nat.mul_comm]; rfl
theorem hex36 : ∀ (D : Nat) (h : D < 36), D < 16 → ((((⟨#[48, 49, 50, 51, 52, 53, 54, 55, 56, 57, 97, 98, 99, 100, 101, 102, 103, 104, 105, 106, 107, 108, 109, 110, 111, 112, 113, 114, 115, 116, 117, 118, 119, 120, 121, 122]⟩ : ByteArray)[D]'h).toNat : Nat) : Int) = hexD D := by
  intro D h _
  obtain rfl | rfl | rfl | rfl | rfl | rfl | rfl | rfl | rfl | rfl | rfl | rfl | rfl | rfl | rfl | rfl : D = 0 ∨ D = 1 ∨ D = 2 ∨ D = 3 ∨ D = 4 ∨ D = 5 ∨ D = 6 ∨ D = 7 ∨ D = 8 ∨ D = 9 ∨ D = 10 ∨ D = 11 ∨ D = 12 ∨ D = 13 ∨ D = 14 ∨ D = 15 := by omega
  all_goals rfl
/-- The digits so far, at the row's end. -/
def Tail16 (C : Array Value) (p : Nat) (zs : List Int) : Prop := C.size = 65 ∧ p + zs.length = 65 ∧ ∀ j z, zs[j]? = some z → C[p + j]? = some (.int .u8 z)
theorem Tail16.put {C : Array Value} {p : Nat} {zs : List Int} (h : Tail16 C (p + 1) zs) (z : Int) : Tail16 (C.setIfInBounds p (.int .u8 z)) p (z :: zs) := by
  obtain ⟨h1, h2, h3⟩ := h
  refine ⟨by simpa using h1, by rw [List.length_cons]; omega, fun j y hy => ?_⟩
  cases j with
  | zero =>
    have : z = y := by simpa using hy
    subst this
    rw [Nat.add_zero, Array.getElem?_setIfInBounds_self_of_lt (by omega)]
  | succ j =>
    have hy' : zs[j]? = some y := by simpa using hy
    rw [Array.getElem?_setIfInBounds_ne (by omega), show p + (j + 1) = p + 1 + j by omega]
    exact h3 j y hy'
/-- The row of sixty-five bytes under way. -/
structure Row16 (w wr : World) (p : Nat) (zs : List Int) : Prop where
  lat : Later w wr
  row : ∃ C, wr.heap[w.heap.size]? = some (.cells C 203) ∧ Tail16 C p zs
theorem Row16.old {w wr : World} {p : Nat} {zs : List Int} (h : Row16 w wr (p + 1) zs) : ∃ u, wr.cell? ⟨w.heap.size, p, none⟩ = some u ∧ wr.frozen? ⟨w.heap.size, p, none⟩ = false := by
  obtain ⟨_, C, hr, h1, h2, _⟩ := h
  have hp : p < C.size := by omega
  refine ⟨C[p], ?_, ?_⟩
  · show (match wr.heap[w.heap.size]? with | some (.cells c _ _) => c[p]? | _ => none) = some C[p]
    rw [hr]
    exact Array.getElem?_eq_getElem hp
  · simp [World.frozen?, hr]
theorem Row16.put {w wr : World} {p : Nat} {zs : List Int} (h : Row16 w wr (p + 1) zs) (z : Int) : Row16 w (wr.setCell ⟨w.heap.size, p, none⟩ (.int .u8 z)) p (z :: zs) := by
  obtain ⟨hl, C, hr, hT⟩ := h
  refine ⟨hl.trans' (v := .slice (some ⟨w.heap.size, 0, none⟩) 0 0) (set_grown wr w.heap.size p (.int .u8 z)) (fun b e => by cases e; exact Nat.le_refl _), _, heap_setCell_same wr w.heap.size p _ _ (.int .u8 z) hr, hT.put z⟩
theorem Row16.cells {w wr : World} {p : Nat} {zs : List Int} (h : Row16 w wr p zs) : ∀ i, i < zs.length → wr.cell? ⟨w.heap.size, p + i, none⟩ = some (.int .u8 (zs.getD i 0)) := by
  intro i hi
  obtain ⟨_, C, hr, _, _, h3⟩ := h
  show (match wr.heap[w.heap.size]? with | some (.cells c _ _) => c[p + i]? | _ => none) = _
  rw [hr]
  refine h3 i _ ?_
  rw [List.getD_eq_getElem?_getD, List.getElem?_eq_getElem hi]
  rfl
theorem hexF_byte : ∀ (k u : Nat), ∀ z ∈ hexF k u, 0 ≤ z ∧ z ≤ 255
  | 0, _, z, h => by simp [hexF] at h
  | k + 1, u, z, h => by
    rw [hexF, List.mem_append] at h
    rcases h with h | h
    · exact hexF_byte k _ z h
    · have : z = hexD (u % 16) := by simpa using h
      rw [this]
      unfold hexD
      split <;> omega
def F16 (u : Nat) (w : World) (e : Ending) (w' : World) : Prop := ∃ s m, e = .returned (.tuple #[.slice none 0 0, .string s]) ∧ 1 ≤ m ∧ m ≤ 16 ∧ u < 16 ^ m ∧ bytesOf s = hexF m u ∧ Later w w'
set_option maxRecDepth 20000 in
set_option maxHeartbeats 1000000 in
theorem bits16_any (u : Nat) (w : World) (hu : u < 18446744073709551616) (hg : 5 < w.heap.size) (h : w.cell? ⟨5, 15, none⟩ = some (.int .u8 4)) : Calls Tryz.prog 138 #[.slice none 0 0, .int .u64 (u : Int), .int .i64 16, .bool false, .bool false] w (F16 u w) := by
  have hq : ∀ o, (w.alloc o).cell? ⟨5, 15, none⟩ = some (.int .u8 4) := fun o => by rw [(later1 w o).cell (p := ⟨5, 15, none⟩) hg]; exact h
  have HQ : Hid (∀ o, (w.alloc o).cell? ⟨5, 15, none⟩ = some (.int .u8 4)) := hq
  clear hq h
  have H16 : Hid (u < 16 ^ 16) := by show u < 16 ^ 16; have : (16 : Nat) ^ 16 = 18446744073709551616 := by decide
                                     omega
  have HFQ : Hid (∀ e w', F16 u w e w' → F16 u w e w') := fun _ _ h => h
  generalize hQ : F16 u w = Q at HFQ ⊢
  have HFQ' : Hid (∀ e w', F16 u w e w' → Q e w') := fun e w' h => by rw [← hQ]; exact h
  clear hQ HFQ
  go_enter Tryz.func138, Tryz.ntmps138
  go_wp2_with (first | (go_at_call 151; refine (tz_16 _ (HQ.out _)).mono ?_; rintro e w2 ⟨rfl, hw⟩; obtain rfl := hw.symm) | (go_at_call 150; refine (pow_16 _).mono ?_; rintro e w2 ⟨rfl, hw⟩; obtain rfl := hw.symm))
  go_loopw [1, 13] (fun uu i wr => ∃ (k p : Nat), uu = .int .u64 ((u / 16 ^ k : Nat) : Int) ∧ i = .int .i64 (p : Int) ∧ k ≤ 15 ∧ Row16 w wr p (hexF k u)) (fun uu _ _ => (RowKit.intOf uu).toNat)
  case atStart => exact ⟨0, 65, by rw [Nat.pow_zero, Nat.div_one], rfl, by omega, later1 _ _, _, (by show (w.heap.push _)[w.heap.size]? = _; simp; rfl), rfl, rfl, fun j z hz => by simp [hexF] at hz⟩
  case round =>
    obtain ⟨k, p, rfl, rfl, hk, hR⟩ := hrel
    have hlen : p + k = 65 := by obtain ⟨_, C, _, _, h2, _⟩ := hR; rw [hexF_len] at h2; exact h2
    obtain ⟨q, rfl⟩ : ∃ q, p = q + 1 := ⟨p - 1, by omega⟩
    have hx64 : u / 16 ^ k < 18446744073709551616 := Nat.lt_of_le_of_lt (Nat.div_le_self _ _) hu
    have hstep := hexF_cons k u
    obtain ⟨v0, c0, f0⟩ := hR.old
    by_cases hge : 16 ≤ u / 16 ^ k
    · have i1 : (16 : Int) ≤ ((u / 16 ^ k : Nat) : Int) := by omega
      have hk15 : k + 1 ≤ 15 := by
        rcases Nat.lt_or_ge k 15 with h | h
        · exact h
        · exfalso
          have : k = 15 := by omega
          subst this
          have h1 := H16.out
          have h2 : (16 : Nat) ^ 16 = 16 ^ 15 * 16 := by decide
          rw [h2] at h1
          have := Nat.div_lt_of_lt_mul h1
          omega
      obtain ⟨D, hD, hD16, hDe⟩ : ∃ D : Nat, bits .and .u64 ((u / 16 ^ k : Nat) : Int) 15 = (D : Int) ∧ D < 16 ∧ Hid (D = u / 16 ^ k % 16) := ⟨u / 16 ^ k % 16, by
        have h2 := bits_and_u64_nat (u / 16 ^ k) 15 hx64 (by decide)
        rw [show ((15 : Nat) : Int) = 15 from rfl] at h2
        rw [h2, show (15 : Nat) = 2 ^ 4 - 1 from rfl, Nat.and_two_pow_sub_one_eq_mod], Nat.mod_lt _ (by decide), rfl⟩
      have hlit := hex36 D (by omega) hD16
      have hdd : Hid (u / 16 ^ (k + 1) = u / 16 ^ k / 16) := by show _ = _; rw [Nat.pow_succ, ← Nat.div_div_eq_div_mul]
      have HT : Hid (Row16 w (wr.setCell ⟨w.heap.size, q, none⟩ (.int .u8 (hexD D))) q (hexF (k + 1) u)) := by show Row16 _ _ _ _; rw [hstep, ← hDe.out]; exact hR.put _
      have hX' : ∃ X, Hid (X = u / 16 ^ k) := ⟨_, rfl⟩
      obtain ⟨X, hX⟩ := hX'
      rw [← hX.out] at i1 hD hx64 hdd ⊢
      clear hstep hge
      go_wp2_with fail
      refine ⟨⟨k + 1, q, by rw [hdd.out, Int.natCast_ediv]; rfl, rfl, hk15, HT.out⟩, ?_⟩
      simp only [RowKit.intOf]
      omega
    · have i1 : ¬ (16 : Int) ≤ ((u / 16 ^ k : Nat) : Int) := by omega
      have hu16 : Hid (u < 16 ^ (k + 1)) := by
        show u < 16 ^ (k + 1)
        have h3 := (Nat.div_lt_iff_lt_mul (Nat.pow_pos (n := k) (show 0 < 16 by decide))).1 (show u / 16 ^ k < 16 by omega)
        rw [Nat.pow_succ, Nat.mul_comm]
        exact h3
      have hR1 : Row16 w (wr.setCell ⟨w.heap.size, q, none⟩ (.int .u8 (hexD (u / 16 ^ k)))) q (hexF (k + 1) u) := by
        rw [hstep, Nat.mod_eq_of_lt (show u / 16 ^ k < 16 by omega)]
        exact hR.put _
      have hlm : (hexF (k + 1) u).length = k + 1 := hexF_len _ _
      have hlq : 65 - q = k + 1 := by omega
      have hlq' : (65 : Int) - (q : Int) = ((k + 1 : Nat) : Int) := by omega
      have cv : ∀ c, (convert 27 9 (.slice (some ⟨w.heap.size, q, none⟩) (65 - q) c)).run Tryz.prog (wr.setCell ⟨w.heap.size, q, none⟩ (.int .u8 (hexD (u / 16 ^ k)))) = .ok (.string (strOfNums (hexF (k + 1) u))) (wr.setCell ⟨w.heap.size, q, none⟩ (.int .u8 (hexD (u / 16 ^ k)))) := fun c => by
        rw [hlq]
        exact run_convert_bytes_arg _ 27 5 Tryz.underlying27 Tryz.underlying5 w.heap.size q (k + 1) c (hexF (k + 1) u) hlm (fun i hi => hR1.cells i (by omega)) 9 Tryz.underlying9
      have HB : Hid (Q (.returned (.tuple #[.slice none 0 0, .string (strOfNums (hexF (k + 1) u))])) (wr.setCell ⟨w.heap.size, q, none⟩ (.int .u8 (hexD (u / 16 ^ k))))) := HFQ'.out _ _ ⟨_, k + 1, rfl, by omega, by omega, hu16.out, bytesOf_nums _ (hexF_byte _ _), hR1.lat⟩
      obtain ⟨X, hX⟩ := hid_ex (u / 16 ^ k)
      obtain ⟨Z, hZ⟩ := hid_ex (strOfNums (hexF (k + 1) u))
      rw [← hZ.out] at cv HB
      rw [← hX.out] at i1 cv HB hx64 ⊢
      have hX16 : X < 16 := by omega
      have hlit := hex36 X (by omega) hX16
      have hq65 : (q : Int) ≤ 65 := by omega
      have hqn : ¬ 65 = q := by omega
      clear hstep hge hR1 hR hlq hlq'
      go_wp2_with fail
      exact HB.out
def H16 (u : Nat) (w : World) (e : Ending) (w' : World) : Prop := ∃ s m, e = .returned (.string s) ∧ 1 ≤ m ∧ m ≤ 16 ∧ u < 16 ^ m ∧ bytesOf s = hexF m u ∧ Later w w'
set_option maxRecDepth 20000 in
set_option maxHeartbeats 1000000 in
theorem fuint_any (u : Nat) (w : World) (hu : u < 18446744073709551616) (hg : 5 < w.heap.size) (h : w.cell? ⟨5, 15, none⟩ = some (.int .u8 4)) : Calls Tryz.prog 119 #[.int .u64 (u : Int), .int .i64 16] w (H16 u w) := by
  have hB := bits16_any u w hu hg h
  have hA : Calls Tryz.prog 126 #[.int .u64 (u : Int), .int .i64 16] w (H16 u w) := by
    go_enter Tryz.func126, Tryz.ntmps126
    go_wp2_with (go_at_call 138; refine hB.mono ?_; rintro e w2 ⟨s, m, rfl, h1, h2, h3, h4, h5⟩)
    have HB : Hid (H16 u w (.returned (.string s)) w2) := ⟨s, m, rfl, h1, h2, h3, h4, h5⟩
    go_ret
    exact HB.out
  clear hB
  go_enter Tryz.func119, Tryz.ntmps119
  go_wp2_with (go_at_call 126; refine hA.mono ?_; rintro e w2 ⟨s, m, rfl, h1, h2, h3, h4, h5⟩)
  have HB : Hid (H16 u w (.returned (.string s)) w2) := ⟨s, m, rfl, h1, h2, h3, h4, h5⟩
  go_ret
  exact HB.out
theorem hexF_zeros : ∀ (m d u : Nat), u < 16 ^ m → hexF (m + d) u = List.replicate d 48 ++ hexF m u
  | m, 0, u, _ => rfl
  | m, d + 1, u, h => by
    rw [← Nat.add_assoc, hexF_cons, hexF_zeros m d u h, List.replicate_succ]
    have : u / 16 ^ (m + d) = 0 := Nat.div_eq_of_lt (Nat.lt_of_lt_of_le h (Nat.pow_le_pow_right (by decide) (by omega)))
    rw [this]
    rfl
theorem bytesOf_app (a b : ByteArray) : bytesOf (a ++ b) = bytesOf a ++ bytesOf b := by
  unfold bytesOf
  rw [ByteArray.data_append, Array.toList_append, List.map_append]
set_option maxRecDepth 20000 in
set_option maxHeartbeats 1000000 in
theorem flo_any (n : Int) (w : World) (hg : 5 < w.heap.size) (h : w.cell? ⟨5, 15, none⟩ = some (.int .u8 4)) : Calls Tryz.prog 107 #[.int .i64 n] w (StrL w (hexL n)) := by
  obtain ⟨u, hu⟩ : ∃ u : Nat, (n % 18446744073709551616).toNat = u := ⟨_, rfl⟩
  have e1 : IntKind.u64.wrap n = (u : Int) := by rw [IntKind.wrap_u64]; omega
  have hu64 : u < 18446744073709551616 := by omega
  have eL : Hid (hexL n = [48, 102] ++ hexF 16 u) := by show hexL n = _; unfold hexL; rw [hu]
  have hF := fuint_any u w hu64 hg h
  clear hu h hg
  go_enter Tryz.func107, Tryz.ntmps107
  go_wp2_with fail
  refine hF.mono ?_
  rintro e w2 ⟨s, m, rfl, h1, h2, h3, h4, h5⟩
  have hsz : s.size = m := by rw [← bytesOf_len, h4, hexF_len]
  have hsm : (16 : Int) - (m : Int) = ((16 - m : Nat) : Int) := by omega
  have hR := Tryz.strings_Repeat ⟨#[48]⟩ (16 - m) w2 (by omega) (by show 1 * (16 - m) ≤ _; omega)
  rw [← hsm] at hR
  have hm16 : 16 = m + (16 - m) := by omega
  have hz := hexF_zeros m (16 - m) u h3
  rw [← hm16] at hz
  clear hsm hm16
  go_wp2_with fail
  refine hR.mono ?_
  rintro e w3 ⟨rfl, hw3⟩
  have HB : Hid (∀ s', bytesOf s' = [48, 102] ++ List.replicate (16 - m) 48 ++ bytesOf s → StrL w (hexL n) (.returned (.string s')) w3) := fun s' hs' => ⟨s', rfl, by rw [hs', eL.out, hz, h4, List.append_assoc], h5.trans hw3⟩
  have hrep : ∀ c, (repeatL [48] c).map (fun b => (b.toNat : Int)) = List.replicate c 48 := fun c => by
    induction c with
    | zero => rfl
    | succ c ih => rw [repeatL, List.map_append, ih, List.replicate_succ]; rfl
  have hrl : (repeatL [48] (16 - m)).length = 16 - m := by rw [repeatL_length]; simp
  obtain ⟨Z, hZ⟩ := hid_ex (⟨(repeatL [48] (16 - m)).toArray⟩ : ByteArray)
  have hZs : Z.size ≤ 16 := by rw [hZ.out]; show (repeatL [48] (16 - m)).toArray.size ≤ 16; rw [List.size_toArray, hrl]; omega
  have hZb : Hid (bytesOf Z = List.replicate (16 - m) 48) := by show _ = _; rw [hZ.out, ← hrep (16 - m)]; unfold bytesOf; simp
  have HB' : Hid (StrL w (hexL n) (.returned (.string ((⟨#[48, 102]⟩ : ByteArray) ++ Z ++ s))) w3) := HB.out _ (by rw [bytesOf_app, bytesOf_app, hZb.out]; rfl)
  have d1 : ¬ 9223372036854775807 < 2 + Z.size := by omega
  have d2 : ¬ 9223372036854775807 < 2 + Z.size + m := by omega
  clear hR hz h1 h3 hF HB hrep hrl
  rw [← hZ.out]
  generalize hQ : StrL w (hexL n) = Q at *
  clear hQ
  go_wp2_with fail
  exact HB'.out
end Go.Proofs.YtbigjeejmacjcaaGreatDoor
/- SourceOk, by the model and by the program. -/
namespace Go.Proofs.YtbigjeejmacjcaaGreatDoor
open Go.RowKit Go.Lib
/-- May it be a source? -/
def So.ok (x : So) : Bool := x.run.isSome && decide (x.text.length ≤ 6000)
theorem env_of {W : World} (nm : String) (hname : nm = "internal/strconv.uint64pow10") (hT : TabIs Tryz.prog W nm .u64 pow10Tab) (hb : 5 < W.heap.size) (hc : W.cell? ⟨5, 15, none⟩ = some (.int .u8 4)) (ho : 0 < W.heap.size) (hs : ∀ i : Nat, i < 7 → ∃ s, W.cell? ⟨0, i, none⟩ = some (.string s) ∧ bytesOf s = opL i) : Env W where
  ito := fun n w hn hw => ito_any nm hname n w hn (tabBelow_of_tabIs hT w hw)
  flo := fun n w _ hw => flo_any n w (Nat.lt_of_lt_of_le hb hw.size) (by rw [hw.cell (p := ⟨5, 15, none⟩) hb]; exact hc)
  ops := hs
  big := ho
theorem Env.later {W w : World} (h : Env W) (hw : Later W w) : Env w where
  ito := fun n w' hn hw' => h.ito n w' hn (hw.trans hw')
  flo := fun n w' hn hw' => h.flo n w' hn (hw.trans hw')
  ops := fun i hi => by
    obtain ⟨s, h1, h2⟩ := h.ops i hi
    exact ⟨s, by rw [hw.cell (p := ⟨0, i, none⟩) h.big]; exact h1, h2⟩
  big := Nat.lt_of_lt_of_le h.big hw.size
def OkP (b : Bool) (w : World) (e : Ending) (w' : World) : Prop := e = .returned (.bool b) ∧ Later w w'
set_option maxRecDepth 20000 in
set_option maxHeartbeats 1000000 in
theorem sok_any (x : So) (v0 v1 : Value) (w : World) (hg : Fu.goods x.funcs) (h0 : RdL w 2 v0 (Sc.dats x.structs)) (h1 : RdL w 5 v1 (Fu.dats x.funcs)) :
    Calls Tryz.prog 15 #[.agg #[v0, v1]] w (OkP x.ok w) := by
  have hP := fun w' (l : Later w w') => sparts_any x v0 v1 w' hg (h0.later l) (h1.later l)
  have hT := fun w' (l : Later w w') (hf : SoFine x) => print_any x hf w' w' v0 v1 (Later.refl _) (h0.later l) (h1.later l)
  have hfine : x.run.isSome = true → SoFineI x := fun h => by
    cases e : So.run x with
    | none => rw [e] at h; cases h
    | some q => exact So.run_fine hg e
  obtain ⟨sa, scap, rfl, hsl⟩ := Sc.slice h0
  obtain ⟨fa, fcap, rfl, hfl⟩ := Fu.slice h1
  have hbx : BxT w.heap.size (w.alloc (.cells #[.slice sa x.structs.length scap, .slice fa x.funcs.length fcap] 33)) [.slice sa x.structs.length scap, .slice fa x.funcs.length fcap] 33 := BxT.new w _ _
  obtain ⟨w1, hw1⟩ := hid_ex (w.alloc (.cells #[.slice sa x.structs.length scap, .slice fa x.funcs.length fcap] 33))
  rw [← hw1.out] at hbx
  have hL1 : Later w w1 := by rw [hw1.out]; exact later1 _ _
  have hz1 : w.heap.size < w1.heap.size := by rw [hw1.out]; simp
  cases hr : So.run x with
  | none =>
    have hleft := So.left_no hr
    have HA : Hid (∀ w', Later w w' → OkP x.ok w (.returned (.bool false)) w') := fun w' l => ⟨by unfold So.ok; rw [hr]; rfl, l⟩
    generalize hQ : OkP x.ok w = Q at *
    clear hQ h0 h1 hsl hfl hfine hT hbx
    go_enter Tryz.func15, Tryz.ntmps15
    go_wp2_with fail
    rw [← hw1.out]
    refine (hP _ hL1).mono ?_
    rintro e w2 ⟨rfl, l2⟩
    rw [hleft]
    have HB := HA.out w2 (hL1.trans l2)
    clear HA hP
    go_wp2_with fail
    exact HB
  | some q =>
    have hleft := So.left_yes hr
    have hq : 0 ≤ q ∧ q ≤ 400 := by
      have h := hr
      unfold So.run at h
      split at h
      · have := Fu.runs_le _ _ _ _ h
        exact ⟨this.2 (by omega), this.1⟩
      · cases h
    have hF := (hfine (by rw [hr]; rfl)).fine
    have HA : Hid (∀ w' b, Later w w' → b = decide (x.text.length ≤ 6000) → OkP x.ok w (.returned (.bool b)) w') := fun w' b l hb => ⟨by unfold So.ok; rw [hr, hb]; rfl, l⟩
    have hll := hF.len
    generalize hQ : OkP x.ok w = Q at *
    clear hQ h0 h1 hsl hfl hfine
    go_enter Tryz.func15, Tryz.ntmps15
    go_wp2_with fail
    rw [← hw1.out]
    refine (hP _ hL1).mono ?_
    rintro e w2 ⟨rfl, l2⟩
    rw [hleft]
    have L2 := hL1.trans l2
    have hbx2 : BxT w.heap.size w2 [.slice sa x.structs.length scap, .slice fa x.funcs.length fcap] 33 := by unfold BxT at hbx ⊢; rw [l2.block _ hz1]; exact hbx
    have y0 := hbx2.cell 0 _ rfl
    have y1 := hbx2.cell 1 _ rfl
    have hT2 := hT w2 L2 hF
    obtain ⟨L, hL⟩ := hid_ex ((400 : Int) - q)
    rw [← hL.out]
    have i1 : (0 : Int) ≤ L := by rw [hL.out]; omega
    clear hP hT hbx hbx2 hleft hq
    go_wp2_with fail
    refine hT2.mono ?_
    rintro e w3 ⟨v, rfl, hB⟩
    have L3 := L2.trans hB.lat
    obtain ⟨a, M, cap, rfl, hM⟩ := hB.shape2
    have HB := HA.out w3 (decide ((M : Int) ≤ 6000)) L3 (by rw [hM.out]; exact decide_eq_decide.2 (by omega))
    clear HA
    go_wp2_with fail
    exact HB
end Go.Proofs.YtbigjeejmacjcaaGreatDoor
