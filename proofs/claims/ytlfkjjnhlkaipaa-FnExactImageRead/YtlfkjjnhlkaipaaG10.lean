/- ImageOk of the model; the law of ImageOk, for every image. -/
import Derived.Test.YtlfkjjnhlkaipaaG9
import Derived.Test.YtlfkjjnhlkaipaaO1
namespace Go.Proofs.Ytlfkjjnhlkaipaa
open Go.RowKit Go.Lib

set_option maxRecDepth 20000 in
set_option maxHeartbeats 2000000 in
theorem simok_b (x : Im) (sv cv : Value) (w : World) (h0 : RdL w 1 sv (Bs.dats x.structs)) (h1 : RdL w 4 cv (Cd.dats x.codes)) (hok : ∀ c ∈ x.codes, ∀ y ∈ c.ins, y.Ok) (hsz : x.sz ≤ 1048576) {b : Bool} (hb : imB x = b) :
    Calls Try.prog 26 #[.agg #[sv, cv, .int .i64 x.main]] w fun e w' => e = .returned (.bool b) ∧ Later w w' := by
  have HL := fun w' (l : Later w w') (bb : Bool) (h : imB0 x = bb) => lok_b x sv cv w' (RdL.later l h0) (RdL.later l h1) hok h
  have HB : Hid (∀ w', Later w w' → imB0 x = true → Calls Try.prog 44 #[.agg #[sv, cv, .int .i64 x.main]] w' (SayP w' w' (imL x))) := fun w' l h => lbytes_any x sv cv w' (RdL.later l h0) (RdL.later l h1) (imB_rg h hok) hsz
  obtain ⟨a0, p0, rfl, _⟩ := Bs.slice h0
  obtain ⟨a1, p1, rfl, _⟩ := Cd.slice h1
  unfold imB at hb
  have HLn : Hid ((imL x).length = imSz x) := imL_len x
  clear h0 h1 hok
  generalize x.main = zm at *
  cases e0 : imB0 x with
  | false =>
    rw [e0, Bool.false_and] at hb
    subst hb
    have hx := fun w' (l : Later w w') => HL w' l false e0
    clear HL HB
    go_enter Try.func26, Try.ntmps26
    go_wp2_with fail
    refine (hx _ (later1 _ _)).mono ?_
    rintro e w1 ⟨rfl, l1⟩
    clear hx
    go_wp2_with fail
    go_ret
    exact ⟨rfl, (later1 _ _).trans l1⟩
  | true =>
    rw [e0, Bool.true_and] at hb
    have hx := fun w' (l : Later w w') => HL w' l true e0
    have hy := fun w' (l : Later w w') => HB.out w' l e0
    have HD : Hid (∀ n : Nat, n = imSz x → decide ((n : Int) ≤ 200000) = b) := fun n hn => by
      rw [← hb, hn]
      apply decide_eq_decide.2
      omega
    clear HL HB hb
    go_enter Try.func26, Try.ntmps26
    go_wp2_with fail
    refine (hx _ (later1 _ _)).mono ?_
    rintro e w1 ⟨rfl, l1⟩
    have y0 : w1.cell? ⟨w.heap.size, 0, none⟩ = some (.slice a0 x.structs.length p0) := by rw [Below.cell l1 (p := ⟨w.heap.size, 0, none⟩) (by simp)]; simp
    have y1 : w1.cell? ⟨w.heap.size, 1, none⟩ = some (.slice a1 x.codes.length p1) := by rw [Below.cell l1 (p := ⟨w.heap.size, 1, none⟩) (by simp)]; simp
    have y2 : w1.cell? ⟨w.heap.size, 2, none⟩ = some (.int .i64 zm) := by rw [Below.cell l1 (p := ⟨w.heap.size, 2, none⟩) (by simp)]; simp
    have z1 : w.heap.size < w1.heap.size := by have := l1.size; simp at this; omega
    have hy1 := hy w1 ((later1 _ _).trans l1)
    have L1 := (later1 w _).trans l1
    clear hx hy l1
    go_wp2_with fail
    refine hy1.mono ?_
    rintro e w2 ⟨v2, rfl, b2⟩
    obtain ⟨a2, c2, h2⟩ := b2.shape
    obtain ⟨N, hN⟩ := hidq (imL x).length
    rw [← hN.out] at h2
    subst h2
    have HD2 : Hid (decide ((N : Int) ≤ 200000) = b) := HD.out N (by rw [hN.out, HLn.out])
    have l2 := b2.lat
    clear hy1 b2 hN HD HLn
    go_wp2_with fail
    go_ret
    exact ⟨by rw [← HD2.out]; first | rfl | simp, L1.trans l2⟩

end Go.Proofs.Ytlfkjjnhlkaipaa
