/- Expressions surveyed, by the program. -/
import Derived.Test.YtbigjeejmacjcaaGreatDoorT10
namespace Go.Proofs.YtbigjeejmacjcaaGreatDoor
open Go.RowKit

mutual
/-- Ints of 64 bits. -/
def Ex.good : Ex → Prop
  | .mk _ n _ _ _ ks => InR n ∧ Ex.goods ks
def Ex.goods : List Ex → Prop
  | [] => True
  | x :: r => x.good ∧ Ex.goods r
end
theorem Ex.goods_at : ∀ (l : List Ex) (j : Nat) (h : j < l.length), Ex.goods l → l[j].good
  | x :: r, 0, _, h => by rw [Ex.goods] at h; exact h.1
  | x :: r, j + 1, hj, h => by rw [Ex.goods] at h; exact Ex.goods_at r j (by simpa using hj) h.2
theorem Ex.good_n {x : Ex} (h : x.good) : InR x.n := by obtain ⟨k, n, tk, tn, nm, ks⟩ := x; rw [Ex.good] at h; exact h.1
theorem Ex.good_kids {x : Ex} (h : x.good) : Ex.goods x.kids := by obtain ⟨k, n, tk, tn, nm, ks⟩ := x; rw [Ex.good] at h; exact h.2

/-- What is asked of an expression, its kids aside. -/
def hereE (s k n tk tn : Int) (name : List Int) (kids : Nat) : Bool := match formE k with | some f => fitsB f n tk tn name kids s | none => false
mutual
/-- What is left of the parts behind an expression; none: it is no expression. -/
def Ex.run (s : Int) : Int → Int → Ex → Option Int
  | d, l, .mk k n tk tn nm ks => if l - 1 < 0 ∨ 30 < d ∨ hereE s k n tk tn nm ks.length = false then none else Ex.runs s (d + 1) (l - 1) ks
def Ex.runs (s : Int) : Int → Int → List Ex → Option Int
  | _, l, [] => some l
  | d, l, x :: r => match Ex.run s d l x with | none => none | some l' => Ex.runs s d l' r
end
theorem Ex.run_eq (s d l : Int) (x : Ex) : Ex.run s d l x = if l - 1 < 0 ∨ 30 < d ∨ hereE s x.kind x.n x.tk x.tn x.name x.kids.length = false then none else Ex.runs s (d + 1) (l - 1) x.kids := by
  obtain ⟨k, n, tk, tn, nm, ks⟩ := x
  rw [Ex.run]
  rfl
/-- The first j done, with l left. -/
def Ex.soFar (s d l : Int) (xs : List Ex) (j : Nat) (l' : Int) : Prop := Ex.runs s d l xs = Ex.runs s d l' (xs.drop j)
theorem Ex.soFar_start (s d l : Int) (xs : List Ex) : Ex.soFar s d l xs 0 l := rfl
theorem Ex.soFar_done {s d l l' : Int} {xs : List Ex} (h : Ex.soFar s d l xs xs.length l') : Ex.runs s d l xs = some l' := by
  unfold Ex.soFar at h
  rw [h, List.drop_length, Ex.runs]
theorem Ex.soFar_next {s d l l' l'' : Int} {xs : List Ex} {j : Nat} (h : Ex.soFar s d l xs j l') (hj : j < xs.length) (hr : Ex.run s d l' xs[j] = some l'') : Ex.soFar s d l xs (j + 1) l'' := by
  unfold Ex.soFar at *
  rw [h, List.drop_eq_getElem_cons hj, Ex.runs, hr]
theorem Ex.soFar_bad {s d l l' : Int} {xs : List Ex} {j : Nat} (h : Ex.soFar s d l xs j l') (hj : j < xs.length) (hr : Ex.run s d l' xs[j] = none) : Ex.runs s d l xs = none := by
  unfold Ex.soFar at h
  rw [h, List.drop_eq_getElem_cons hj, Ex.runs, hr]
mutual
theorem Ex.run_le (s : Int) : ∀ (x : Ex) (d l l' : Int), Ex.run s d l x = some l' → 0 ≤ l' ∧ l' < l
  | .mk k n tk tn nm ks, d, l, l', h => by
    rw [Ex.run] at h
    split at h
    · cases h
    · rename_i hc
      rcases Ex.runs_le s ks _ _ _ h with ⟨h1, h2⟩
      exact ⟨h2 (by omega), by omega⟩
theorem Ex.runs_le (s : Int) : ∀ (xs : List Ex) (d l l' : Int), Ex.runs s d l xs = some l' → l' ≤ l ∧ (0 ≤ l → 0 ≤ l')
  | [], d, l, l', h => by rw [Ex.runs] at h; cases h; exact ⟨Int.le_refl _, fun h => h⟩
  | x :: r, d, l, l', h => by
    rw [Ex.runs] at h
    split at h
    · cases h
    · rename_i l1 h1
      have a := Ex.run_le s x d l l1 h1
      have b := Ex.runs_le s r d l1 l' h
      exact ⟨by omega, fun _ => b.2 a.1⟩
end

theorem later_only {K : Nat} {w0 w w' : World} (h : Later w0 w) (ho : OnlyK K w w') (hK : w0.heap.size ≤ K) : Later w0 w' := Below.trans h (ho.below hK h.size)
theorem only_cell {K : Nat} {w w' : World} (ho : OnlyK K w w') : (∀ b o, b < w.heap.size → b ≠ K → w'.cell? ⟨b, o, none⟩ = w.cell? ⟨b, o, none⟩) := fun b _ hb hn => World.cell?_of_block (ho.block b hb hn)

/-- What a survey of parts answers. -/
def SvP (K : Nat) (s : Int) (w : World) (r : Option Int) (e : Ending) (w' : World) : Prop := OnlyK K w w' ∧ match r with | some l => e = .returned (.bool true) ∧ Sv K w' s (400 - l) | none => e = .returned (.bool false) ∧ ∃ p, Sv K w' s p
theorem SvP.no {K : Nat} {s p : Int} {w w' : World} {r : Option Int} {e : Ending} (ho : OnlyK K w w') (hr : r = none) (he : e = .returned (.bool false)) (hS : Sv K w' s p) : SvP K s w r e w' := by
  subst hr
  exact ⟨ho, he, p, hS⟩
theorem SvP.yes {K : Nat} {s p l : Int} {w w' : World} {r : Option Int} {e : Ending} (ho : OnlyK K w w') (hr : r = some l) (he : e = .returned (.bool true)) (hS : Sv K w' s p) (hp : p = 400 - l) : SvP K s w r e w' := by
  subst hr; subst hp
  exact ⟨ho, he, hS⟩

set_option maxHeartbeats 4000000 in
theorem iexpr_any (x : Ex) (v0 v1 : Value) (K : Nat) (s p d : Int) (w0 w : World) (hg : x.good) (h0 : RdN w0 v0 x.name) (h1 : RdL w0 6 v1 (Ex.dats x.kids)) (hL : Later w0 w) (hK : w0.heap.size ≤ K) (hS : Sv K w s p) (hp0 : 0 ≤ p) (hp1 : p ≤ 400) (hd0 : 0 ≤ d) (hd1 : d ≤ 31)
    (ih : ∀ (p d : Int) (w : World), Later w0 w → Sv K w s p → 0 ≤ p → p ≤ 400 → 0 ≤ d → d ≤ 31 → Calls Tryz.prog 105 #[.pointer (some ⟨K, 0, none⟩), v1, .int .i64 d] w fun e w' => SvP K s w (Ex.runs s d (400 - p) x.kids) e w') :
    Calls Tryz.prog 117 #[.pointer (some ⟨K, 0, none⟩), .agg #[.int .i64 x.kind, .int .i64 x.n, .int .i64 x.tk, .int .i64 x.tn, v0, v1], .int .i64 d] w fun e w' => SvP K s w (Ex.run s d (400 - p) x) e w' := by
  have hne : w.heap.size ≠ K := by have := hS.lt; omega
  have hrun := Ex.run_eq s d (400 - p) x
  have hF := fun w => iformE_any x.kind w
  have hn := Ex.good_n hg
  obtain ⟨a0, p0, rfl, _⟩ := h0.slice
  obtain ⟨a1, p1, rfl, hkl⟩ := Ex.slice h1
  clear h1 hg
  cases q : formE x.kind with
  | none =>
    have hr : Ex.run s d (400 - p) x = none := by rw [hrun, if_pos (by right; right; unfold hereE; rw [q])]
    rw [hr]
    rw [q] at hF
    have HF : Hid (∀ w' e, Later w w' → e = .returned (.bool false) → SvP K s w none e w') := fun w' e l he => SvP.no (OnlyK.of_later l) rfl he (hS.later l)
    generalize x.kind = z_kind at *
    generalize x.n = z_n at *
    generalize x.tk = z_tk at *
    generalize x.tn = z_tn at *
    clear hr hrun ih h0
    go_enter Tryz.func117, Tryz.ntmps117
    go_wp2_with fail
    refine (hF _).mono ?_
    rintro e w1 ⟨⟨f, rfl, _⟩, l1⟩
    obtain ⟨fe, mo, fn, ft, na, bo, ot⟩ := f
    unfold formV
    dsimp only
    go_wp2_with fail
    go_ret
    exact HF.out _ _ (((later1 _ _).trans l1).alloc _) rfl
  | some f =>
    have hh : hereE s x.kind x.n x.tk x.tn x.name x.kids.length = fitsB f x.n x.tk x.tn x.name x.kids.length s := by unfold hereE; rw [q]
    rw [hh] at hrun
    have HQ : Hid (∀ g, formE x.kind = some g → g = f) := fun g hg => by rw [q] at hg; cases hg; rfl
    have hF' : ∀ w, Calls Tryz.prog 124 #[.int .i64 x.kind] w fun e w' => e = .returned (.tuple #[formV f, .bool true]) ∧ Later w w' := fun w => by
      refine (hF w).mono ?_
      rintro e w' ⟨⟨g, he, hg⟩, l⟩
      have : g = f := hg f q
      rw [this, q] at he
      exact ⟨he, l⟩
    clear hF HQ q hh
    have hfit := fun (p : Int) (w' : World) (l : Later w0 w') (hS' : Sv K w' s p) => ifits_any K f x.n x.tk x.tn s p _ x.name a1 x.kids.length p1 w' hn hS' (h0.later l)
    generalize fitsB f x.n x.tk x.tn x.name x.kids.length s = fb at *
    obtain ⟨fe, mo, fn, ft, na, bo, ot⟩ := f
    unfold formV at hF' hfit
    dsimp only at hF' hfit
    have henter := fun (w' : World) (hS' : Sv K w' s p) => ienter_any K s p d w' hS' hp0 hp1
    generalize Ex.run s d (400 - p) x = R at *
    by_cases hen : p + 1 ≤ 400 ∧ d ≤ 30
    · obtain ⟨he1, he2⟩ := hen
      rw [decide_eq_true he1, decide_eq_true he2] at henter
      cases fb
      · have hr : R = none := by rw [hrun, if_pos (by right; right; rfl)]
        subst hr
        clear hrun ih
        generalize x.kind = z_kind at *
        generalize x.n = z_n at *
        generalize x.tk = z_tk at *
        generalize x.tn = z_tn at *
        go_enter Tryz.func117, Tryz.ntmps117
        go_wp2_with fail
        refine (hF' _).mono ?_
        rintro e w1 ⟨rfl, l1⟩
        have L1 : Later w w1 := (later1 _ _).trans l1
        have s1 := L1.size
        have hz1 : w.heap.size < w1.heap.size := by have := l1.size; simp at this; omega
        have hne1 : w1.heap.size ≠ K := by have := hS.lt; omega
        obtain ⟨hc1, _⟩ := bcell l1
        have hS1 : Sv K (w1.alloc (.cells #[.int .i64 fe, .int .i64 mo, .int .i64 fn, .int .i64 ft, .bool na, .bool bo, .bool ot] 150)) s p := hS.later (L1.alloc _)
        have hL1 := hL.trans (L1.alloc (.cells #[.int .i64 fe, .int .i64 mo, .int .i64 fn, .int .i64 ft, .bool na, .bool bo, .bool ot] 150))
        go_wp2_with (first | (go_at_call 102; refine (henter _ hS1).mono ?_; rintro e w2 ⟨rfl, hS2, o2⟩; have hc2 := only_cell o2; have hL2 := later_only hL1 o2 hK) | (go_at_call 103; refine (hfit _ _ hL2 hS2).mono ?_; rintro e w3 ⟨rfl, l3⟩))
        go_ret
        exact SvP.no (((OnlyK.of_later (L1.alloc _)).trans o2).trans (OnlyK.of_later l3)) rfl rfl (hS2.later l3)
      · have hr : R = Ex.runs s (d + 1) (400 - (p + 1)) x.kids := by rw [hrun, if_neg (by rintro (h | h | h) <;> first | omega | cases h), show (400 : Int) - p - 1 = 400 - (p + 1) by omega]
        subst hr
        have hI := fun w' l hS' => ih (p + 1) (d + 1) w' l hS' (by omega) (by omega) (by omega) (by omega)
        generalize Ex.runs s (d + 1) (400 - (p + 1)) x.kids = R at *
        clear hrun ih
        generalize x.kind = z_kind at *
        generalize x.n = z_n at *
        generalize x.tk = z_tk at *
        generalize x.tn = z_tn at *
        go_enter Tryz.func117, Tryz.ntmps117
        go_wp2_with fail
        refine (hF' _).mono ?_
        rintro e w1 ⟨rfl, l1⟩
        have L1 : Later w w1 := (later1 _ _).trans l1
        have s1 := L1.size
        have hz1 : w.heap.size < w1.heap.size := by have := l1.size; simp at this; omega
        have hne1 : w1.heap.size ≠ K := by have := hS.lt; omega
        obtain ⟨hc1, _⟩ := bcell l1
        have hS1 : Sv K (w1.alloc (.cells #[.int .i64 fe, .int .i64 mo, .int .i64 fn, .int .i64 ft, .bool na, .bool bo, .bool ot] 150)) s p := hS.later (L1.alloc _)
        have hL1 := hL.trans (L1.alloc (.cells #[.int .i64 fe, .int .i64 mo, .int .i64 fn, .int .i64 ft, .bool na, .bool bo, .bool ot] 150))
        go_wp2_with (first | (go_at_call 102; refine (henter _ hS1).mono ?_; rintro e w2 ⟨rfl, hS2, o2⟩; have hc2 := only_cell o2; have hL2 := later_only hL1 o2 hK; have hz2 : w.heap.size < w2.heap.size := (by have := o2.size; simp at this; omega)) | (go_at_call 103; refine (hfit _ _ hL2 hS2).mono ?_; rintro e w3 ⟨rfl, l3⟩; obtain ⟨hc3, _⟩ := bcell l3; have hS3 := hS2.later l3; have hL3 := hL2.trans l3))
        refine (hI _ hL3 hS3).mono ?_
        rintro e w4 ⟨o4, hm⟩
        have o := (((OnlyK.of_later (L1.alloc (.cells #[.int .i64 fe, .int .i64 mo, .int .i64 fn, .int .i64 ft, .bool na, .bool bo, .bool ot] 150))).trans o2).trans (OnlyK.of_later l3)).trans o4
        cases R with
        | none =>
          obtain ⟨rfl, p', hS4⟩ := hm
          go_wp2_with fail
          go_ret
          exact SvP.no o rfl rfl hS4
        | some l =>
          obtain ⟨rfl, hS4⟩ := hm
          go_wp2_with fail
          go_ret
          exact SvP.yes o rfl rfl hS4 rfl
    · have hr : R = none := by rw [hrun, if_pos (by omega)]
      subst hr
      have he : (decide (p + 1 ≤ 400) && decide (d ≤ 30)) = false := by
        by_cases h1 : p + 1 ≤ 400
        · rw [decide_eq_false (show ¬ d ≤ 30 by omega), Bool.and_false]
        · rw [decide_eq_false h1, Bool.false_and]
      rw [he] at henter
      clear hrun ih he
      generalize x.kind = z_kind at *
      generalize x.n = z_n at *
      generalize x.tk = z_tk at *
      generalize x.tn = z_tn at *
      go_enter Tryz.func117, Tryz.ntmps117
      go_wp2_with fail
      refine (hF' _).mono ?_
      rintro e w1 ⟨rfl, l1⟩
      have L1 : Later w w1 := (later1 _ _).trans l1
      have hS1 : Sv K (w1.alloc (.cells #[.int .i64 fe, .int .i64 mo, .int .i64 fn, .int .i64 ft, .bool na, .bool bo, .bool ot] 150)) s p := hS.later (L1.alloc _)
      go_wp2_with (go_at_call 102; refine (henter _ hS1).mono ?_; rintro e w2 ⟨rfl, hS2, o2⟩)
      go_ret
      exact SvP.no ((OnlyK.of_later (L1.alloc _)).trans o2) rfl rfl hS2

end Go.Proofs.YtbigjeejmacjcaaGreatDoor
