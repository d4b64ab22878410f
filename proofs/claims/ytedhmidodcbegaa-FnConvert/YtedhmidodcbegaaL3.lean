/- The walk of the law FnConvert. -/
import Derived.Test.YtedhmidodcbegaaA2
import Derived.Test.YtedhmidodcbegaaL2
namespace Go.Proofs.Ytedhmidodcbegaa
open Go.RowKit

theorem same_nan_ne {x z : Nat} (h : Same x z) (hx : nanB x = true) : (FloatKind.f64.format.order z z != some .eq) = true := by
  rcases h with ⟨a, _⟩ | ⟨_, b⟩
  · rw [hx] at a; cases a
  · exact b
theorem back3 : toI (fb (cb (floatOfInt .f64 3))) = 3 := back_int (by decide) (by decide)

set_option maxRecDepth 20000 in
set_option maxHeartbeats 1000000 in
theorem lawconvert_any (a : Option Addr) (len cap : Nat) (w : World) (hb : Bytes w a len) :
    Calls Try.prog 5 #[.slice a len cap] w fun e w' => e = .returned (.bool true) ∧ Later w w' := by
  go_enter Try.func5, Try.ntmps5
  go_wp2_with (first | (go_at_call 18; refine (drawfromint_any cap hb).mono ?_; rintro e w1 ⟨n, rfl, hn, hw1⟩) | (go_at_call 19; refine (drawtoint_any cap (hb.later hw1)).mono ?_; rintro e w2 ⟨b, rfl, hbr, hw2⟩))
  · have hT : toI (fb (cb (floatOfInt .f64 n))) = n := back_int (by omega) (by omega)
    have hT3 := back3
    have hw := hw1.trans hw2
    rcases toI_ways (fb_lt b) with ⟨a1, h⟩ | ⟨a1, a2, h⟩ | ⟨a1, a2, a3, h⟩ | ⟨a1, a2, a3, h⟩
    · have a1' : nanB (fb b) = true := a1
      go_wp2_with (first | (go_at_call 21; refine (fromint_any _ _).mono ?_; rintro e w3 ⟨rfl, rfl⟩) | (go_at_call 20; refine (toint_any _ _).mono ?_; rintro e w3 ⟨rfl, rfl⟩) | (go_at_call 17; refine (sfl_any _ _).mono ?_; rintro e w3 ⟨z, rfl, z1, z2, hw3⟩; have z3 := same_nan_ne z1 (by assumption)))
      go_ret
      exact ⟨rfl, hw.trans hw3⟩
    · have a1' : nanB (fb b) = false := a1
      go_wp2_with (first | (go_at_call 21; refine (fromint_any _ _).mono ?_; rintro e w3 ⟨rfl, rfl⟩) | (go_at_call 20; refine (toint_any _ _).mono ?_; rintro e w3 ⟨rfl, rfl⟩) | (go_at_call 17; refine (snum_fr hw (by assumption)).mono ?_; rintro e w3 ⟨rfl, hw3⟩))
      go_ret
      exact ⟨rfl, hw3⟩
    · have a1' : nanB (fb b) = false := a1
      go_wp2_with (first | (go_at_call 21; refine (fromint_any _ _).mono ?_; rintro e w3 ⟨rfl, rfl⟩) | (go_at_call 20; refine (toint_any _ _).mono ?_; rintro e w3 ⟨rfl, rfl⟩) | (go_at_call 17; refine (snum_fr hw (by assumption)).mono ?_; rintro e w3 ⟨rfl, hw3⟩))
      go_ret
      exact ⟨rfl, hw3⟩
    · have a1' : nanB (fb b) = false := a1
      obtain ⟨d, hd, d1, d2⟩ := rest_small (fb_lt b) a1' a2 a3
      have hd' := run_sub hd
      clear h hd
      go_wp2_with (first | (go_at_call 21; refine (fromint_any _ _).mono ?_; rintro e w3 ⟨rfl, rfl⟩) | (go_at_call 20; refine (toint_any _ _).mono ?_; rintro e w3 ⟨rfl, rfl⟩) | (go_at_call 17; refine (snum_fr hw (by assumption)).mono ?_; rintro e w3 ⟨rfl, hw3⟩))
      go_ret
      exact ⟨rfl, hw3⟩
  · have hT3 := back3
    have hw := hw1.trans hw2
    rcases toI_ways (fb_lt b) with ⟨a1, h⟩ | ⟨a1, a2, h⟩ | ⟨a1, a2, a3, h⟩ | ⟨a1, a2, a3, h⟩
    · have a1' : nanB (fb b) = true := a1
      go_wp2_with (first | (go_at_call 21; refine (fromint_any _ _).mono ?_; rintro e w3 ⟨rfl, rfl⟩) | (go_at_call 20; refine (toint_any _ _).mono ?_; rintro e w3 ⟨rfl, rfl⟩) | (go_at_call 17; refine (sfl_any _ _).mono ?_; rintro e w3 ⟨z, rfl, z1, z2, hw3⟩; have z3 := same_nan_ne z1 (by assumption)))
      go_ret
      exact ⟨rfl, hw.trans hw3⟩
    · have a1' : nanB (fb b) = false := a1
      go_wp2_with (first | (go_at_call 21; refine (fromint_any _ _).mono ?_; rintro e w3 ⟨rfl, rfl⟩) | (go_at_call 20; refine (toint_any _ _).mono ?_; rintro e w3 ⟨rfl, rfl⟩) | (go_at_call 17; refine (snum_fr hw (by assumption)).mono ?_; rintro e w3 ⟨rfl, hw3⟩))
      go_ret
      exact ⟨rfl, hw3⟩
    · have a1' : nanB (fb b) = false := a1
      go_wp2_with (first | (go_at_call 21; refine (fromint_any _ _).mono ?_; rintro e w3 ⟨rfl, rfl⟩) | (go_at_call 20; refine (toint_any _ _).mono ?_; rintro e w3 ⟨rfl, rfl⟩) | (go_at_call 17; refine (snum_fr hw (by assumption)).mono ?_; rintro e w3 ⟨rfl, hw3⟩))
      go_ret
      exact ⟨rfl, hw3⟩
    · have a1' : nanB (fb b) = false := a1
      obtain ⟨d, hd, d1, d2⟩ := rest_small (fb_lt b) a1' a2 a3
      have hd' := run_sub hd
      clear h hd
      go_wp2_with (first | (go_at_call 21; refine (fromint_any _ _).mono ?_; rintro e w3 ⟨rfl, rfl⟩) | (go_at_call 20; refine (toint_any _ _).mono ?_; rintro e w3 ⟨rfl, rfl⟩) | (go_at_call 17; refine (snum_fr hw (by assumption)).mono ?_; rintro e w3 ⟨rfl, hw3⟩))
      go_ret
      exact ⟨rfl, hw3⟩
  · have hT3 := back3
    have hw := hw1.trans hw2
    rcases toI_ways (fb_lt b) with ⟨a1, h⟩ | ⟨a1, a2, h⟩ | ⟨a1, a2, a3, h⟩ | ⟨a1, a2, a3, h⟩
    · have a1' : nanB (fb b) = true := a1
      go_wp2_with (first | (go_at_call 21; refine (fromint_any _ _).mono ?_; rintro e w3 ⟨rfl, rfl⟩) | (go_at_call 20; refine (toint_any _ _).mono ?_; rintro e w3 ⟨rfl, rfl⟩) | (go_at_call 17; refine (sfl_any _ _).mono ?_; rintro e w3 ⟨z, rfl, z1, z2, hw3⟩; have z3 := same_nan_ne z1 (by assumption)))
      go_ret
      exact ⟨rfl, hw.trans hw3⟩
    · have a1' : nanB (fb b) = false := a1
      go_wp2_with (first | (go_at_call 21; refine (fromint_any _ _).mono ?_; rintro e w3 ⟨rfl, rfl⟩) | (go_at_call 20; refine (toint_any _ _).mono ?_; rintro e w3 ⟨rfl, rfl⟩) | (go_at_call 17; refine (snum_fr hw (by assumption)).mono ?_; rintro e w3 ⟨rfl, hw3⟩))
      go_ret
      exact ⟨rfl, hw3⟩
    · have a1' : nanB (fb b) = false := a1
      go_wp2_with (first | (go_at_call 21; refine (fromint_any _ _).mono ?_; rintro e w3 ⟨rfl, rfl⟩) | (go_at_call 20; refine (toint_any _ _).mono ?_; rintro e w3 ⟨rfl, rfl⟩) | (go_at_call 17; refine (snum_fr hw (by assumption)).mono ?_; rintro e w3 ⟨rfl, hw3⟩))
      go_ret
      exact ⟨rfl, hw3⟩
    · have a1' : nanB (fb b) = false := a1
      obtain ⟨d, hd, d1, d2⟩ := rest_small (fb_lt b) a1' a2 a3
      have hd' := run_sub hd
      clear h hd
      go_wp2_with (first | (go_at_call 21; refine (fromint_any _ _).mono ?_; rintro e w3 ⟨rfl, rfl⟩) | (go_at_call 20; refine (toint_any _ _).mono ?_; rintro e w3 ⟨rfl, rfl⟩) | (go_at_call 17; refine (snum_fr hw (by assumption)).mono ?_; rintro e w3 ⟨rfl, hw3⟩))
      go_ret
      exact ⟨rfl, hw3⟩

end Go.Proofs.Ytedhmidodcbegaa
