/- The walk of the law FnArith. -/
import Derived.Test.YtedhmidodcbegaaA1
namespace Go.Proofs.Ytedhmidodcbegaa
open Go.RowKit

theorem arith_fr {w0 w : World} (h : Later w0 w) (k a b : Int) :
    Calls Try.prog 16 #[.int .i64 k, .int .i64 a, .int .i64 b] w fun e w' => e = .returned (.int .i64 (arOut k (fb a) (fb b))) ∧ Later w0 w' := by
  refine (arith_any k a b w).mono ?_
  rintro e w' ⟨rfl, hw⟩
  exact ⟨rfl, h.trans hw⟩
theorem snum_fr {w0 w : World} (h : Later w0 w) {n : Int} (hn : nanB (fb n) = false) :
    Calls Try.prog 17 #[.int .i64 n] w fun e w' => e = .returned (.float .f64 (fb n)) ∧ Later w0 w' := by
  refine (sfloat_num n hn w).mono ?_
  rintro e w' ⟨rfl, rfl⟩
  exact ⟨rfl, h⟩
theorem snan_fr {w0 w : World} (h : Later w0 w) {n : Int} (hn : nanB (fb n) = true) :
    Calls Try.prog 17 #[.int .i64 n] w fun e w' => ∃ z, e = .returned (.float .f64 z) ∧ (FloatKind.f64.format.order z z == some .eq) = false ∧ cb (z ^^^ 2 ^ 63) = 9221120237041090561 ∧ Later w0 w' := by
  refine (sfloat_nan n hn w).mono ?_
  rintro e w' ⟨rfl, rfl⟩
  exact ⟨_, rfl, bne_nbeq (nanOf_nan 0 0 w), cb_nan (by rw [nan_flip (nanOf_lt 0 0 w)]; exact nanOf_nan 0 0 w), h.trans (Later.drew _)⟩

theorem ar4 (x y : Nat) : arOut 4 x y = b2i (FloatKind.f64.format.order x y == some .lt) := rfl
theorem ar5 (x y : Nat) : arOut 5 x y = b2i (FloatKind.f64.format.order x y == some .eq) := rfl

set_option maxRecDepth 20000 in
set_option maxHeartbeats 1000000 in
theorem lawarith_any (a : Option Addr) (len cap : Nat) (w : World) (hb : Bytes w a len) :
    Calls Try.prog 4 #[.slice a len cap] w fun e w' => e = .returned (.bool true) ∧ Later w w' := by
  go_enter Try.func4, Try.ntmps4
  go_wp2_with (go_at_call 15; refine (drawarith_any cap hb).mono ?_; rintro e w1 ⟨o, x, y, rfl, hx, hy, hw1⟩)
  have k0 : (arOut 0 (fb x) (fb y) != arOut 0 (fb y) (fb x)) = false := by rw [add_comm0]; simp
  have k2 : (arOut 2 (fb x) (fb y) != arOut 2 (fb y) (fb x)) = false := by rw [mul_comm2]; simp
  have k9 : arOut 9 (fb x) (fb y) = 0 := rfl
  have hne := neg_float
  have lx := fb_lt x
  have ly := fb_lt y
  clear hb hx hy
  rcases c1 : nanB (fb x)
  · have s5 : arOut 5 (fb x) (fb x) = 1 := by rw [ar5, bne_beq c1]; rfl
    have t1 : (FloatKind.f64.format.order (fb x) (fb x) == some .eq) = true := bne_beq c1
    rcases c2 : nanB (fb y)
    · have t2 : (FloatKind.f64.format.order (fb y) (fb y) == some .eq) = true := bne_beq c2
      have k1 : (arOut 1 (fb x) (fb y) == arOut 0 (fb x) (fb (cb (fb y ^^^ 2 ^ 63)))) = true := by rw [flip_back ly c2, ← sub_add ly]; simp
      obtain ⟨o, ho, ho'⟩ := ord_cases c1 c2
      cases o
      · have a1 : arOut 4 (fb x) (fb y) = 1 := by rw [ar4, ho]; rfl
        have a2 : arOut 4 (fb y) (fb x) = 0 := by rw [ar4, ho']; rfl
        have a3 : arOut 5 (fb x) (fb y) = 0 := by rw [ar5, ho]; rfl
        clear ho ho'
        go_wp2_with (first | (go_at_call 16; refine (arith_fr (by assumption) _ _ _).mono ?_; rintro e w3 ⟨rfl, hw3⟩) | (go_at_call 13; refine (bits_any _ _).mono ?_; rintro e w3 ⟨rfl, rfl⟩) | (go_at_call 17; refine (snum_fr (by assumption) (by assumption)).mono ?_; rintro e w3 ⟨rfl, hw3⟩))
        go_ret
        exact ⟨rfl, by assumption⟩
      · have a1 : arOut 4 (fb x) (fb y) = 0 := by rw [ar4, ho]; rfl
        have a2 : arOut 4 (fb y) (fb x) = 0 := by rw [ar4, ho']; rfl
        have a3 : arOut 5 (fb x) (fb y) = 1 := by rw [ar5, ho]; rfl
        clear ho ho'
        go_wp2_with (first | (go_at_call 16; refine (arith_fr (by assumption) _ _ _).mono ?_; rintro e w3 ⟨rfl, hw3⟩) | (go_at_call 13; refine (bits_any _ _).mono ?_; rintro e w3 ⟨rfl, rfl⟩) | (go_at_call 17; refine (snum_fr (by assumption) (by assumption)).mono ?_; rintro e w3 ⟨rfl, hw3⟩))
        go_ret
        exact ⟨rfl, by assumption⟩
      · have a1 : arOut 4 (fb x) (fb y) = 0 := by rw [ar4, ho]; rfl
        have a2 : arOut 4 (fb y) (fb x) = 1 := by rw [ar4, ho']; rfl
        have a3 : arOut 5 (fb x) (fb y) = 0 := by rw [ar5, ho]; rfl
        clear ho ho'
        go_wp2_with (first | (go_at_call 16; refine (arith_fr (by assumption) _ _ _).mono ?_; rintro e w3 ⟨rfl, hw3⟩) | (go_at_call 13; refine (bits_any _ _).mono ?_; rintro e w3 ⟨rfl, rfl⟩) | (go_at_call 17; refine (snum_fr (by assumption) (by assumption)).mono ?_; rintro e w3 ⟨rfl, hw3⟩))
        go_ret
        exact ⟨rfl, by assumption⟩
    · have a1 : arOut 4 (fb x) (fb y) = 0 := arOut_r ly c2
      have a2 : arOut 4 (fb y) (fb x) = 0 := arOut_l ly c2
      have a3 : arOut 5 (fb x) (fb y) = 0 := arOut_r ly c2
      have a4 : arOut 1 (fb x) (fb y) = 9221120237041090561 := arOut_r ly c2
      have a5 : arOut 0 (fb x) (fb 9221120237041090561) = 9221120237041090561 := arOut_r (fb_lt _) (by rw [fb_nanc]; exact nan_nanc)
      go_wp2_with (first | (go_at_call 16; refine (arith_fr (by assumption) _ _ _).mono ?_; rintro e w3 ⟨rfl, hw3⟩) | (go_at_call 13; refine (bits_any _ _).mono ?_; rintro e w3 ⟨rfl, rfl⟩) | (go_at_call 17; refine (snum_fr (by assumption) (by assumption)).mono ?_; rintro e w3 ⟨rfl, hw3⟩) | (go_at_call 17; refine (snan_fr (by assumption) (by assumption)).mono ?_; rintro e w3 ⟨z, rfl, z1, z2, hw3⟩))
      go_ret
      exact ⟨rfl, by assumption⟩
  · have s5 : arOut 5 (fb x) (fb x) = 0 := arOut_l lx c1
    have a1 : arOut 4 (fb x) (fb y) = 0 := arOut_l lx c1
    have a2 : arOut 4 (fb y) (fb x) = 0 := arOut_r lx c1
    have a3 : arOut 5 (fb x) (fb y) = 0 := arOut_l lx c1
    have a4 : arOut 1 (fb x) (fb y) = 9221120237041090561 := arOut_l lx c1
    rcases c2 : nanB (fb y)
    · have a5 : arOut 0 (fb x) (fb (cb (fb y ^^^ 2 ^ 63))) = 9221120237041090561 := arOut_l lx c1
      go_wp2_with (first | (go_at_call 16; refine (arith_fr (by assumption) _ _ _).mono ?_; rintro e w3 ⟨rfl, hw3⟩) | (go_at_call 13; refine (bits_any _ _).mono ?_; rintro e w3 ⟨rfl, rfl⟩) | (go_at_call 17; refine (snum_fr (by assumption) (by assumption)).mono ?_; rintro e w3 ⟨rfl, hw3⟩) | (go_at_call 17; refine (snan_fr (by assumption) (by assumption)).mono ?_; rintro e w3 ⟨z, rfl, z1, z2, hw3⟩))
      go_ret
      exact ⟨rfl, by assumption⟩
    · have a5 : arOut 0 (fb x) (fb 9221120237041090561) = 9221120237041090561 := arOut_l lx c1
      go_wp2_with (first | (go_at_call 16; refine (arith_fr (by assumption) _ _ _).mono ?_; rintro e w3 ⟨rfl, hw3⟩) | (go_at_call 13; refine (bits_any _ _).mono ?_; rintro e w3 ⟨rfl, rfl⟩) | (go_at_call 17; refine (snan_fr (by assumption) (by assumption)).mono ?_; rintro e w3 ⟨z, rfl, z1, z2, hw3⟩))
      go_ret
      exact ⟨rfl, by assumption⟩

end Go.Proofs.Ytedhmidodcbegaa
