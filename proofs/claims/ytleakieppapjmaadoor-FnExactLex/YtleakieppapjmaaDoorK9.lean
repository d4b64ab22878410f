/- What a piece is as a float's bits: l3float. -/
import Derived.Test.YtleakieppapjmaaDoorK8
import Derived.Test.YtleakieppapjmaaDoorW3
import Derived.Test.YtleakieppapjmaaDoorW5
namespace Go.Proofs.YtleakieppapjmaaDoor.KL
open Go.RowKit

theorem cb_fb' {n : Int} (hn : InR n) (h : nanB (fb n) = false) : cb (fb n) = n := by
  rw [cb_num h]
  unfold InR at hn
  have := fb_wrap n
  rw [IntKind.wrap_u64] at this
  unfold wrap64
  omega
/-- Bits that a float has. -/
def canon (n : Int) : Bool := if nanB (fb n) then n == 9221120237041090561 else true

def hexB (z : Int) : Bool := dig z || (decide (97 ≤ z) && decide (z ≤ 102))
def hexV (z : Int) : Int := if z ≤ 57 then z - 48 else z - 97 + 10
def evH (zs : List Int) : Int := zs.foldl (fun a z => a * 16 + hexV z) 0
theorem evH_snoc (zs : List Int) (z : Int) : evH (zs ++ [z]) = evH zs * 16 + hexV z := by unfold evH; rw [List.foldl_append]; rfl
/-- The bits that a piece is, as of a float. -/
def floatOfL (zs : List Int) : Option Int :=
  if decide (zs.length = 18) && (zs.getD 0 0 == 48) && (zs.getD 1 0 == 102) && (zs.drop 2).all hexB && canon (wrap64 (evH (zs.drop 2))) then some (wrap64 (evH (zs.drop 2))) else none
def FloP (zs : List Int) (w : World) (e : Ending) (w' : World) : Prop := ∃ n b, e = .returned (.tuple #[.int .i64 n, .bool b]) ∧ floatOfL zs = (if b then some n else none) ∧ Later w w'
theorem FloP.no {zs : List Int} {w w' : World} {e : Ending} {n : Int} (h : e = .returned (.tuple #[.int .i64 n, .bool false])) (h2 : floatOfL zs = none) (h3 : Later w w') : FloP zs w e w' := ⟨n, false, h, h2, h3⟩
theorem bitsfloat_any (n : Int) (hn : InR n) (w : World) : ∃ x w1, Calls Tryd.prog 23 #[.int .i64 n] w (fun e w' => e = .returned (.float .f64 x) ∧ w' = w1) ∧ Later w w1 ∧
    Calls Tryd.prog 22 #[.float .f64 x] w1 (fun e w' => ∃ r, e = .returned (.int .i64 r) ∧ (r == n) = canon n ∧ w' = w1) := by
  by_cases h : nanB (fb n) = true
  · refine ⟨_, _, sfloat_nan n h w, Later.drew _, ?_⟩
    refine (sbits_any _ (nanOf_lt 0 0 w) _).mono ?_
    rintro e w' ⟨rfl, rfl⟩
    refine ⟨_, rfl, ?_, rfl⟩
    rw [cb_nan (nanOf_nan 0 0 w)]
    unfold canon
    rw [if_pos h, Bool.eq_iff_iff, beq_iff_eq, beq_iff_eq]
    exact eq_comm
  · have h' : nanB (fb n) = false := by simpa using h
    refine ⟨_, _, sfloat_num n h' w, Later.refl _, ?_⟩
    refine (sbits_any _ (fb_lt n) _).mono ?_
    rintro e w' ⟨rfl, rfl⟩
    refine ⟨_, rfl, ?_, rfl⟩
    rw [cb_fb' hn h']
    unfold canon
    rw [if_neg h]
    simp

end Go.Proofs.YtleakieppapjmaaDoor.KL
