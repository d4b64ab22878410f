/- What impl.Arith and spec.Arith, FromInt and ToInt answer. -/
import Derived.Test.YtedhmidodcbegaaW5
namespace Go.Proofs.Ytedhmidodcbegaa
open Go.RowKit

/-- Nothing that was there has turned. -/
def Later (w w' : World) : Prop := Below w.heap.size w w'
theorem Later.refl (w : World) : Later w w := Below.refl _ _
theorem Later.drew (w : World) : Later w w.drew := (Below.refl _ _).drew
theorem Later.trans {a b c : World} (h : Later a b) (k : Later b c) : Later a c := Below.trans h (Below.mono k h.size)

/-- The same float, or both are no number. -/
def Same (x b : Nat) : Prop := (nanB x = false ∧ b = x) ∨ (nanB x = true ∧ nanB b = true)
theorem Same.refl (x : Nat) : Same x x := by
  rcases h : nanB x
  · exact .inl ⟨h, rfl⟩
  · exact .inr ⟨h, h⟩

theorem sfl_any (n : Int) (w : World) :
    Calls Try.prog 17 #[.int .i64 n] w fun e w' => ∃ b, e = .returned (.float .f64 b) ∧ Same (fb n) b ∧ b < 18446744073709551616 ∧ Later w w' := by
  rcases h : nanB (fb n)
  · refine (sfloat_num n h w).mono ?_
    rintro e w' ⟨rfl, rfl⟩
    exact ⟨_, rfl, .inl ⟨h, rfl⟩, fb_lt n, Later.refl _⟩
  · refine (sfloat_nan n h w).mono ?_
    rintro e w' ⟨rfl, rfl⟩
    exact ⟨_, rfl, .inr ⟨h, nanOf_nan _ _ _⟩, nanOf_lt _ _ _, Later.drew _⟩

def b2i (b : Bool) : Int := if b then 1 else 0
def arZ (op : BinOp) (x y : Nat) : Int := match floatBits op .f64 x y with | some r => cb r | none => 9221120237041090561
theorem cb_arN (op : BinOp) (x y : Nat) (w : World) : cb (arN op x y w) = arZ op x y := by
  unfold arN arZ
  cases floatBits op .f64 x y
  · exact cb_nan (nanOf_nan _ _ _)
  · rfl
theorem arW_later (op : BinOp) (x y : Nat) (w : World) : Later w (arW op x y w) := by
  unfold arW
  split
  · exact Later.refl _
  · exact Later.drew _
theorem arN_lt (op : BinOp) (x y : Nat) (w : World) : arN op x y w < 18446744073709551616 := by
  unfold arN
  split
  · rename_i r h
    have := floatBits_wf h
    simpa [Lit.wf] using this
  · exact nanOf_lt _ _ _

/-- The answer of Arith on the floats with the bits x and y. -/
def arOut (k : Int) (x y : Nat) : Int :=
  if k = 0 then arZ .add x y else if k = 1 then arZ .sub x y else if k = 2 then arZ .mul x y else if k = 3 then arZ .quo x y
  else if k = 4 then b2i (FloatKind.f64.format.order x y == some .lt) else if k = 5 then b2i (FloatKind.f64.format.order x y == some .eq) else 0

set_option maxHeartbeats 400000 in
theorem oneif_any (b : Bool) (w : World) : Calls Try.prog 35 #[.bool b] w fun e w' => e = .returned (.int .i64 (b2i b)) ∧ w' = w := by
  cases b
  all_goals
    go_enter Try.func35, Try.ntmps35
    go_wp2
    go_ret
    exact ⟨rfl, rfl⟩
set_option maxHeartbeats 400000 in
theorem l1bool_any (b : Bool) (w : World) : Calls Try.prog 37 #[.bool b] w fun e w' => e = .returned (.int .i64 (b2i b)) ∧ w' = w := by
  cases b
  all_goals
    go_enter Try.func37, Try.ntmps37
    go_wp2
    go_ret
    exact ⟨rfl, rfl⟩

theorem ar_cases (k : Int) : k = 0 ∨ k = 1 ∨ k = 2 ∨ k = 3 ∨ k = 4 ∨ k = 5 ∨ ((k == 0) = false ∧ (k == 1) = false ∧ (k == 2) = false ∧ (k == 3) = false ∧ (k == 4) = false ∧ (k == 5) = false) := by
  by_cases h0 : k = 0
  · exact .inl h0
  · by_cases h1 : k = 1
    · exact .inr (.inl h1)
    · by_cases h2 : k = 2
      · exact .inr (.inr (.inl h2))
      · by_cases h3 : k = 3
        · exact .inr (.inr (.inr (.inl h3)))
        · by_cases h4 : k = 4
          · exact .inr (.inr (.inr (.inr (.inl h4))))
          · by_cases h5 : k = 5
            · exact .inr (.inr (.inr (.inr (.inr (.inl h5)))))
            · exact .inr (.inr (.inr (.inr (.inr (.inr (by simp [h0, h1, h2, h3, h4, h5]))))))
theorem arOut_none {k : Int} (x y : Nat) (h : (k == 0) = false ∧ (k == 1) = false ∧ (k == 2) = false ∧ (k == 3) = false ∧ (k == 4) = false ∧ (k == 5) = false) : arOut k x y = 0 := by
  simp only [beq_eq_false_iff_ne] at h
  unfold arOut
  rw [if_neg h.1, if_neg h.2.1, if_neg h.2.2.1, if_neg h.2.2.2.1, if_neg h.2.2.2.2.1, if_neg h.2.2.2.2.2]

theorem run_ar_add (x y : Nat) (w : World) : (binOp .add 23 (.float .f64 x) (.float .f64 y)).run Try.prog w = .ok (.float .f64 (arN .add x y w)) (arW .add x y w) := run_ar .add (.inl rfl) 23 x y w
theorem run_ar_sub (x y : Nat) (w : World) : (binOp .sub 23 (.float .f64 x) (.float .f64 y)).run Try.prog w = .ok (.float .f64 (arN .sub x y w)) (arW .sub x y w) := run_ar .sub (.inr (.inl rfl)) 23 x y w
theorem run_ar_mul (x y : Nat) (w : World) : (binOp .mul 23 (.float .f64 x) (.float .f64 y)).run Try.prog w = .ok (.float .f64 (arN .mul x y w)) (arW .mul x y w) := run_ar .mul (.inr (.inr (.inl rfl))) 23 x y w
theorem run_ar_quo (x y : Nat) (w : World) : (binOp .quo 23 (.float .f64 x) (.float .f64 y)).run Try.prog w = .ok (.float .f64 (arN .quo x y w)) (arW .quo x y w) := run_ar .quo (.inr (.inr (.inr rfl))) 23 x y w

set_option maxHeartbeats 800000 in
theorem arith_any (k a b : Int) (w : World) :
    Calls Try.prog 16 #[.int .i64 k, .int .i64 a, .int .i64 b] w fun e w' => e = .returned (.int .i64 (arOut k (fb a) (fb b))) ∧ Later w w' := by
  have r1 := run_ar_add
  have r2 := run_ar_sub
  have r3 := run_ar_mul
  have r4 := run_ar_quo
  rcases ar_cases k with rfl | rfl | rfl | rfl | rfl | rfl | h
  rotate_right
  · have hz := arOut_none (fb a) (fb b) h
    obtain ⟨h0, h1, h2, h3, h4, h5⟩ := h
    have HZ : Hid (arOut k (fb a) (fb b) = 0) := hz
    clear hz
    go_enter Try.func16, Try.ntmps16
    go_wp2_with (go_at_call 14; refine (float_any _ _).mono ?_; rintro e w' ⟨rfl, rfl⟩)
    go_ret
    exact ⟨ret_int HZ.out.symm, Later.refl _⟩
  all_goals
    go_enter Try.func16, Try.ntmps16
    go_wp2_with (first | (go_at_call 14; refine (float_any _ _).mono ?_; rintro e w' ⟨rfl, rfl⟩) | (go_at_call 13; refine (bits_any _ _).mono ?_; rintro e w' ⟨rfl, rfl⟩) | (go_at_call 35; refine (oneif_any _ _).mono ?_; rintro e w' ⟨rfl, rfl⟩))
    go_ret
    first
      | exact ⟨ret_int (cb_arN _ _ _ _), arW_later _ _ _ _⟩
      | exact ⟨rfl, Later.refl _⟩

end Go.Proofs.Ytedhmidodcbegaa
