/- ToInt, sameFloat, and the walks of the five exact laws. -/
import Derived.Test.YtedhmidodcbegaaW7
namespace Go.Proofs.Ytedhmidodcbegaa
open Go.RowKit

set_option maxRecDepth 20000 in
set_option maxHeartbeats 400000 in
theorem toint_any (n : Int) (w : World) : Calls Try.prog 20 #[.int .i64 n] w fun e w' => e = .returned (.int .i64 (toI (fb n))) ∧ w' = w := by
  have lx := fb_lt n
  rcases toI_ways lx with ⟨a, h⟩ | ⟨a, b, h⟩ | ⟨a, b, c, h⟩ | ⟨a, b, c, h⟩
  · have HT : Hid (toI (fb n) = 0) := h
    clear h
    have a' : nanB (fb n) = true := a
    go_enter Try.func20, Try.ntmps20
    go_wp2_with (first | (go_at_call 14; refine (float_any _ _).mono ?_; rintro e w' ⟨rfl, rfl⟩) | (go_at_call 29; refine (isnan_any _ _).mono ?_; rintro e w' ⟨rfl, rfl⟩))
    go_ret
    exact ⟨ret_int HT.out.symm, rfl⟩
  · have HT : Hid (toI (fb n) = 9223372036854775807) := h
    clear h
    have a' : nanB (fb n) = false := a
    go_enter Try.func20, Try.ntmps20
    go_wp2_with (first | (go_at_call 14; refine (float_any _ _).mono ?_; rintro e w' ⟨rfl, rfl⟩) | (go_at_call 29; refine (isnan_any _ _).mono ?_; rintro e w' ⟨rfl, rfl⟩))
    go_ret
    exact ⟨ret_int HT.out.symm, rfl⟩
  · have HT : Hid (toI (fb n) = -9223372036854775808) := h
    clear h
    have a' : nanB (fb n) = false := a
    go_enter Try.func20, Try.ntmps20
    go_wp2_with (first | (go_at_call 14; refine (float_any _ _).mono ?_; rintro e w' ⟨rfl, rfl⟩) | (go_at_call 29; refine (isnan_any _ _).mono ?_; rintro e w' ⟨rfl, rfl⟩))
    go_ret
    exact ⟨ret_int HT.out.symm, rfl⟩
  · have a' : nanB (fb n) = false := a
    go_enter Try.func20, Try.ntmps20
    go_wp2_with (first | (go_at_call 14; refine (float_any _ _).mono ?_; rintro e w' ⟨rfl, rfl⟩) | (go_at_call 29; refine (isnan_any _ _).mono ?_; rintro e w' ⟨rfl, rfl⟩))
    go_ret
    exact ⟨rfl, rfl⟩

set_option maxRecDepth 20000 in
set_option maxHeartbeats 400000 in
theorem stoint_num (n : Int) (hn : nanB (fb n) = false) (w : World) : Calls Try.prog 26 #[.int .i64 n] w fun e w' => e = .returned (.int .i64 (toI (fb n))) ∧ w' = w := by
  have lx := fb_lt n
  rcases toI_ways lx with ⟨a, h⟩ | ⟨a, b, h⟩ | ⟨a, b, c, h⟩ | ⟨a, b, c, h⟩
  · rw [show nanB (fb n) = true from a] at hn; cases hn
  · have HT : Hid (toI (fb n) = 9223372036854775807) := h
    clear h
    go_enter Try.func26, Try.ntmps26
    go_wp2_with (go_at_call 17; refine (sfloat_num _ hn _).mono ?_; rintro e w' ⟨rfl, rfl⟩)
    go_ret
    exact ⟨ret_int HT.out.symm, rfl⟩
  · have HT : Hid (toI (fb n) = -9223372036854775808) := h
    clear h
    go_enter Try.func26, Try.ntmps26
    go_wp2_with (go_at_call 17; refine (sfloat_num _ hn _).mono ?_; rintro e w' ⟨rfl, rfl⟩)
    go_ret
    exact ⟨ret_int HT.out.symm, rfl⟩
  · go_enter Try.func26, Try.ntmps26
    go_wp2_with (go_at_call 17; refine (sfloat_num _ hn _).mono ?_; rintro e w' ⟨rfl, rfl⟩)
    go_ret
    exact ⟨rfl, rfl⟩
set_option maxHeartbeats 400000 in
theorem stoint_nan (n : Int) (hn : nanB (fb n) = true) (w : World) : Calls Try.prog 26 #[.int .i64 n] w fun e w' => e = .returned (.int .i64 0) ∧ w' = w.drew := by
  have hb : ∀ w, (FloatKind.f64.format.order (nanOf 0 0 w) (nanOf 0 0 w) != some .eq) = true := nanOf_nan 0 0
  go_enter Try.func26, Try.ntmps26
  go_wp2_with (go_at_call 17; refine (sfloat_nan _ hn _).mono ?_; rintro e w' ⟨rfl, rfl⟩)
  go_ret
  exact ⟨rfl, rfl⟩
theorem stoint_any (n : Int) (w : World) : Calls Try.prog 26 #[.int .i64 n] w fun e w' => e = .returned (.int .i64 (toI (fb n))) ∧ Later w w' := by
  rcases h : nanB (fb n)
  · refine (stoint_num n h w).mono ?_
    rintro e w' ⟨rfl, rfl⟩
    exact ⟨rfl, Later.refl _⟩
  · refine (stoint_nan n h w).mono ?_
    rintro e w' ⟨rfl, rfl⟩
    exact ⟨ret_int (toI_nan h).symm, Later.drew _⟩

set_option maxHeartbeats 400000 in
theorem same_nan (x b : Nat) (h1 : (FloatKind.f64.format.order x x != some .eq) = true) (h2 : (FloatKind.f64.format.order b b != some .eq) = true) (w : World) :
    Calls Try.prog 23 #[.float .f64 x, .float .f64 b] w fun e w' => e = .returned (.bool true) ∧ w' = w := by
  go_enter Try.func23, Try.ntmps23
  go_wp2
  go_ret
  exact ⟨rfl, rfl⟩
set_option maxHeartbeats 400000 in
theorem same_zero (x v : Nat) (c : Bool) (h1 : (FloatKind.f64.format.order x x != some .eq) = false) (h2 : (FloatKind.f64.format.order x 0 == some .eq) = true)
    (hd : ∀ w, (binOp .quo 23 (.float .f64 4607182418800017408) (.float .f64 x)).run Try.prog w = .ok (.float .f64 v) w) (h3 : (FloatKind.f64.format.order v 0 == some .gt) = c) (w : World) :
    Calls Try.prog 23 #[.float .f64 x, .float .f64 x] w fun e w' => e = .returned (.bool true) ∧ w' = w := by
  cases c
  all_goals
    go_enter Try.func23, Try.ntmps23
    go_wp2
    go_ret
    exact ⟨rfl, rfl⟩
set_option maxHeartbeats 400000 in
theorem same_num (x : Nat) (h1 : (FloatKind.f64.format.order x x != some .eq) = false) (h2 : (FloatKind.f64.format.order x 0 == some .eq) = false) (h3 : (FloatKind.f64.format.order x x == some .eq) = true) (w : World) :
    Calls Try.prog 23 #[.float .f64 x, .float .f64 x] w fun e w' => e = .returned (.bool true) ∧ w' = w := by
  go_enter Try.func23, Try.ntmps23
  go_wp2
  go_ret
  exact ⟨rfl, rfl⟩

theorem bne_beq {o : Option Ordering} (h : (o != some .eq) = false) : (o == some .eq) = true := by
  cases hb : (o == some .eq)
  · simp [bne, hb] at h
  · rfl
theorem nought_of {x : Nat} (hx : x < 18446744073709551616) (hn : nanB x = false) (h : (FloatKind.f64.format.order x 0 == some .eq) = true) : x = 0 ∨ x = 9223372036854775808 := by
  have hle : x % 9223372036854775808 ≤ 9218868437227405312 := by
    rcases Nat.lt_or_ge 9218868437227405312 (x % 9223372036854775808) with a | a
    · rw [nanB_of a] at hn; cases hn
    · exact a
  by_cases h0 : x % 9223372036854775808 = 0
  · omega
  · exfalso
    rcases Nat.eq_or_lt_of_le hle with e | l
    · rcases (by omega : x = 9218868437227405312 ∨ x = 18442240474082181120) with e | e
      · rw [e] at h; revert h; decide +kernel
      · rw [e] at h; revert h; decide +kernel
    · have := (fin1_of hx (by omega) l).nought
      rw [this] at h; cases h

theorem same_any (x b : Nat) (hx : x < 18446744073709551616) (h : Same x b) (w : World) :
    Calls Try.prog 23 #[.float .f64 x, .float .f64 b] w fun e w' => e = .returned (.bool true) ∧ w' = w := by
  rcases h with ⟨a, rfl⟩ | ⟨a, b⟩
  · rcases c : (FloatKind.f64.format.order b 0 == some .eq)
    · exact same_num b a c (bne_beq a) w
    · rcases nought_of hx a c with e | e
      · subst e
        exact same_zero 0 _ _ a c quo_one_p rfl w
      · exact same_zero b _ _ a c (by rw [e]; exact quo_one_m) rfl w
  · exact same_nan x _ a b w

set_option maxHeartbeats 400000 in
theorem xbits_any (b : Nat) (hb : b < 18446744073709551616) (w : World) : Calls Try.prog 6 #[.float .f64 b] w fun e w' => e = .returned (.bool true) ∧ Later w w' := by
  go_enter Try.func6, Try.ntmps6
  go_wp2_with (first | (go_at_call 22; refine (sbits_any _ hb _).mono ?_; rintro e w' ⟨rfl, rfl⟩) | (go_at_call 13; refine (bits_any _ _).mono ?_; rintro e w' ⟨rfl, rfl⟩))
  go_ret
  exact ⟨rfl, Later.refl _⟩
set_option maxHeartbeats 400000 in
theorem xfloat_any (n : Int) (w : World) : Calls Try.prog 7 #[.int .i64 n] w fun e w' => e = .returned (.bool true) ∧ Later w w' := by
  go_enter Try.func7, Try.ntmps7
  go_wp2_with (first | (go_at_call 17; refine (sfl_any _ _).mono ?_; rintro e w' ⟨x, rfl, hx, lx, hw⟩) | (go_at_call 14; refine (float_any _ _).mono ?_; rintro e w' ⟨rfl, rfl⟩) | (go_at_call 23; refine (same_any _ _ (fb_lt _) hx _).mono ?_; rintro e w' ⟨rfl, rfl⟩))
  go_ret
  exact ⟨rfl, hw⟩
set_option maxHeartbeats 400000 in
theorem xarith_any (k a b : Int) (w : World) : Calls Try.prog 8 #[.int .i64 k, .int .i64 a, .int .i64 b] w fun e w' => e = .returned (.bool true) ∧ Later w w' := by
  go_enter Try.func8, Try.ntmps8
  go_wp2_with (first | (go_at_call 24; refine (sarith_any _ _ _ _).mono ?_; rintro e w1 ⟨rfl, hw1⟩) | (go_at_call 16; refine (arith_any _ _ _ _).mono ?_; rintro e w2 ⟨rfl, hw2⟩))
  go_ret
  exact ⟨rfl, Later.trans hw1 hw2⟩
set_option maxHeartbeats 400000 in
theorem xfromint_any (n : Int) (w : World) : Calls Try.prog 9 #[.int .i64 n] w fun e w' => e = .returned (.bool true) ∧ Later w w' := by
  go_enter Try.func9, Try.ntmps9
  go_wp2_with (first | (go_at_call 25; refine (sfromint_any _ _).mono ?_; rintro e w1 ⟨rfl, rfl⟩) | (go_at_call 21; refine (fromint_any _ _).mono ?_; rintro e w2 ⟨rfl, rfl⟩))
  go_ret
  exact ⟨rfl, Later.refl _⟩
set_option maxHeartbeats 400000 in
theorem xtoint_any (n : Int) (w : World) : Calls Try.prog 10 #[.int .i64 n] w fun e w' => e = .returned (.bool true) ∧ Later w w' := by
  go_enter Try.func10, Try.ntmps10
  go_wp2_with (first | (go_at_call 26; refine (stoint_any _ _).mono ?_; rintro e w1 ⟨rfl, hw1⟩) | (go_at_call 20; refine (toint_any _ _).mono ?_; rintro e w2 ⟨rfl, rfl⟩))
  go_ret
  exact ⟨rfl, hw1⟩

end Go.Proofs.Ytedhmidodcbegaa
