/- The walk of the law FnBits. -/
import Derived.Test.YtedhmidodcbegaaD3
namespace Go.Proofs.Ytedhmidodcbegaa
open Go.RowKit

theorem fb_cb {x : Nat} (hx : x < 18446744073709551616) (h : nanB x = false) : fb (cb x) = x := by
  rw [cb_num h]
  unfold fb wrap64
  rw [IntKind.wrap_u64]
  omega
theorem cb_fb {n : Int} (hn : InR n) (h : nanB (fb n) = false) : cb (fb n) = n := by
  rw [cb_num h]
  unfold InR at hn
  unfold fb wrap64
  rw [IntKind.wrap_u64]
  omega
theorem fb_nanc : fb 9221120237041090561 = 9221120237041090561 := by decide +kernel
theorem nan_nanc : nanB 9221120237041090561 = true := nanB_of (by decide)
theorem cb_nanc : cb 9221120237041090561 = 9221120237041090561 := cb_nan nan_nanc
theorem cb_one : cb 4607182418800017408 = 4607182418800017408 := by decide +kernel
theorem cb_mtwo : cb 13835058055282163712 = -4611686018427387904 := by decide +kernel

theorem bne_nbeq {o : Option Ordering} (h : (o != some .eq) = true) : (o == some .eq) = false := by
  cases hb : (o == some .eq)
  · rfl
  · simp [bne, hb] at h

set_option maxRecDepth 20000 in
set_option maxHeartbeats 1000000 in
theorem lawbits_any (a : Option Addr) (len cap : Nat) (w : World) (hb : Bytes w a len) :
    Calls Try.prog 3 #[.slice a len cap] w fun e w' => e = .returned (.bool true) ∧ Later w w' := by
  go_enter Try.func3, Try.ntmps3
  go_wp2_with (first | (go_at_call 11; refine (drawbits_any cap hb).mono ?_; rintro e w1 ⟨x, rfl, hx, hw1⟩) | (go_at_call 12; refine (drawfloat_any cap (hb.later hw1)).mono ?_; rintro e w2 ⟨n, rfl, hn, hw2⟩))
  have hw := hw1.trans hw2
  have k1 := cb_one
  have k2 := cb_mtwo
  have k3 := fb_nanc
  have k4 := cb_nanc
  have k5 : (FloatKind.f64.format.order 9221120237041090561 9221120237041090561 != some .eq) = true := nan_nanc
  rcases c1 : nanB x
  · have e1 := fb_cb hx c1
    have e2 : (FloatKind.f64.format.order x x != some .eq) = false := c1
    have e3 := bne_beq e2
    rcases c2 : nanB (fb n)
    · have e4 := cb_fb hn c2
      have e5 : (FloatKind.f64.format.order (fb n) (fb n) != some .eq) = false := c2
      go_wp2_with (first | (go_at_call 13; refine (bits_any _ _).mono ?_; rintro e w3 ⟨rfl, rfl⟩) | (go_at_call 14; refine (float_any _ _).mono ?_; rintro e w3 ⟨rfl, rfl⟩))
      go_ret
      exact ⟨rfl, hw⟩
    · have e4 := cb_nan c2
      have e5 : (FloatKind.f64.format.order (fb n) (fb n) != some .eq) = true := c2
      clear c2
      by_cases hnn : (9221120237041090561 == n) = true
      · go_wp2_with (first | (go_at_call 13; refine (bits_any _ _).mono ?_; rintro e w3 ⟨rfl, rfl⟩) | (go_at_call 14; refine (float_any _ _).mono ?_; rintro e w3 ⟨rfl, rfl⟩))
        go_ret
        exact ⟨rfl, hw⟩
      · have hnn : (9221120237041090561 == n) = false := by simpa using hnn
        go_wp2_with (first | (go_at_call 13; refine (bits_any _ _).mono ?_; rintro e w3 ⟨rfl, rfl⟩) | (go_at_call 14; refine (float_any _ _).mono ?_; rintro e w3 ⟨rfl, rfl⟩))
        go_ret
        exact ⟨rfl, hw⟩
  · have e1 := cb_nan c1
    have e2 : (FloatKind.f64.format.order x x != some .eq) = true := c1
    have e3 : (FloatKind.f64.format.order x x == some .eq) = false := bne_nbeq e2
    have k6 : (FloatKind.f64.format.order 9221120237041090561 9221120237041090561 == some .eq) = false := bne_nbeq k5
    rcases c2 : nanB (fb n)
    · have e4 := cb_fb hn c2
      have e5 : (FloatKind.f64.format.order (fb n) (fb n) != some .eq) = false := c2
      go_wp2_with (first | (go_at_call 13; refine (bits_any _ _).mono ?_; rintro e w3 ⟨rfl, rfl⟩) | (go_at_call 14; refine (float_any _ _).mono ?_; rintro e w3 ⟨rfl, rfl⟩))
      go_ret
      exact ⟨rfl, hw⟩
    · have e4 := cb_nan c2
      have e5 : (FloatKind.f64.format.order (fb n) (fb n) != some .eq) = true := c2
      clear c2
      by_cases hnn : (9221120237041090561 == n) = true
      · go_wp2_with (first | (go_at_call 13; refine (bits_any _ _).mono ?_; rintro e w3 ⟨rfl, rfl⟩) | (go_at_call 14; refine (float_any _ _).mono ?_; rintro e w3 ⟨rfl, rfl⟩))
        go_ret
        exact ⟨rfl, hw⟩
      · have hnn : (9221120237041090561 == n) = false := by simpa using hnn
        go_wp2_with (first | (go_at_call 13; refine (bits_any _ _).mono ?_; rintro e w3 ⟨rfl, rfl⟩) | (go_at_call 14; refine (float_any _ _).mono ?_; rintro e w3 ⟨rfl, rfl⟩))
        go_ret
        exact ⟨rfl, hw⟩

end Go.Proofs.Ytedhmidodcbegaa
