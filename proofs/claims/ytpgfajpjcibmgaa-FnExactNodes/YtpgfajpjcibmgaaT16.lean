/- Functions and sources surveyed, by the program: countParts and Nodes. -/
import Derived.Test.YtpgfajpjcibmgaaT15
import Derived.Deep.CutRange
namespace Go.Proofs.Ytpgfajpjcibmgaa
open Go.RowKit

theorem tyB_true (k n s : Int) : tyB k n s true = (((k == 0) && (n == 0)) || tyB k n s false) := by
  unfold tyB
  by_cases h : k = 0
  · subst h; simp
  · rw [if_neg h, if_neg h, neb h]; rfl
def headF (s : Int) (x : Fu) : Bool := nameL x.name && paramB 4 s x.params
def Fu.run (s l : Int) (x : Fu) : Option Int := if headF s x && tyB x.rk x.rn s true then St.runs s 1 l x.body else none
def Fu.runs (s : Int) : Int → List Fu → Option Int
  | l, [] => some l
  | l, x :: r => match Fu.run s l x with | none => none | some l' => Fu.runs s l' r
def Fu.good (x : Fu) : Prop := St.goods x.body
def Fu.goods (l : List Fu) : Prop := ∀ j (h : j < l.length), l[j].good
def Fu.soFar (s l : Int) (xs : List Fu) (j : Nat) (l' : Int) : Prop := Fu.runs s l xs = Fu.runs s l' (xs.drop j)
theorem Fu.soFar_start (s l : Int) (xs : List Fu) : Fu.soFar s l xs 0 l := rfl
theorem Fu.soFar_done {s l l' : Int} {xs : List Fu} (h : Fu.soFar s l xs xs.length l') : Fu.runs s l xs = some l' := by
  unfold Fu.soFar at h
  rw [h, List.drop_length, Fu.runs]
theorem Fu.soFar_next {s l l' l'' : Int} {xs : List Fu} {j : Nat} (h : Fu.soFar s l xs j l') (hj : j < xs.length) (hr : Fu.run s l' xs[j] = some l'') : Fu.soFar s l xs (j + 1) l'' := by
  unfold Fu.soFar at *
  rw [h, List.drop_eq_getElem_cons hj, Fu.runs, hr]
theorem Fu.soFar_bad {s l l' : Int} {xs : List Fu} {j : Nat} (h : Fu.soFar s l xs j l') (hj : j < xs.length) (hr : Fu.run s l' xs[j] = none) : Fu.runs s l xs = none := by
  unfold Fu.soFar at h
  rw [h, List.drop_eq_getElem_cons hj, Fu.runs, hr]
theorem Fu.run_le {s l l' : Int} {x : Fu} (h : Fu.run s l x = some l') : l' ≤ l ∧ (0 ≤ l → 0 ≤ l') := by
  unfold Fu.run at h
  split at h
  · exact St.runs_le s _ _ _ _ h
  · cases h

set_option maxRecDepth 100000 in
set_option maxHeartbeats 8000000 in
theorem ifunc_any (x : Fu) (v0 v1 v2 : Value) (K : Nat) (s p : Int) (w0 w : World) (hg : x.good) (h0 : RdN w0 v0 x.name) (h1 : RdL w0 3 v1 (Pa.dats x.params)) (h2 : RdL w0 8 v2 (St.dats x.body)) (hL : Later w0 w) (hK : w0.heap.size ≤ K) (hS : Sv K w s p) (hp0 : 0 ≤ p) (hp1 : p ≤ 400) :
    Calls Try.prog 28 #[.pointer (some ⟨K, 0, none⟩), .agg #[v0, v1, .int .i64 x.rk, .int .i64 x.rn, v2]] w fun e w' => SvP K s w (Fu.run s (400 - p) x) e w' := by
  have hne : w.heap.size ≠ K := by have := hS.lt; omega
  have hKw := hS.lt
  have hN := fun w' (l : Later w w') => iname_any v0 x.name w' (h0.later (hL.trans l))
  have hP := fun w' (l : Later w w') => iparams_any v1 x.params 4 s w' (RdL.later (hL.trans l) h1)
  have hT := fun w' => ity_any x.rk x.rn s w'
  have hI := fun w' (l : Later w w') => istmts_any v2 x.body K s p 1 w0 w' hg h2 (hL.trans l) hK (hS.later l) hp0 hp1 (by decide) (by decide)
  have HR : Hid (Fu.run s (400 - p) x = if headF s x && tyB x.rk x.rn s true then St.runs s 1 (400 - p) x.body else none) := rfl
  have HH : Hid (headF s x = (nameL x.name && paramB 4 s x.params)) := rfl
  have HY : Hid (tyB x.rk x.rn s true = (((x.rk == 0) && (x.rn == 0)) || tyB x.rk x.rn s false)) := tyB_true _ _ _
  have hb := buildTy
  have c0 := hS.c0
  have HS : Hid (∀ w', Later w w' → Sv K w' s p) := fun w' l => hS.later l
  obtain ⟨a0, p0, rfl, _⟩ := h0.slice
  obtain ⟨a1, p1, rfl, _⟩ := Pa.slice h1
  obtain ⟨a2, p2, rfl, _⟩ := St.slice h2
  clear h0 h1 h2 hg hS
  generalize Fu.run s (400 - p) x = R at *
  generalize St.runs s 1 (400 - p) x.body = RB at *
  generalize nameL x.name = nb at *
  generalize paramB 4 s x.params = pb at *
  generalize tyB x.rk x.rn s false = tb at *
  generalize tyB x.rk x.rn s true = tt at *
  generalize headF s x = hd at *
  generalize x.rk = z_rk at *
  generalize x.rn = z_rn at *
  go_enter Try.func28, Try.ntmps28
  go_upto_region 1 with fail
  go_cut [18] from 5 (fun s18 wc => s18 = .bool (!hd) ∧ Later (w.alloc (.cells #[.slice a0 x.name.length p0, .slice a1 x.params.length p1, .int .i64 z_rk, .int .i64 z_rn, .slice a2 x.body.length p2] 63)) wc)
  case first =>
    cases nb
    · as_aux_lemma =>
        go_quiet ((go_at_call 43; exact Calls.quiet_of_same (hN _ (later_drewN (later1 _ _) _))))
        all_goals
          go_wp2_with fail
          go_meet
          case rel => exact ⟨by rw [HH.out]; rfl, later_drewN (Later.refl _) _⟩
    · as_aux_lemma =>
        have HSS : Hid (∀ w', Later (w.alloc (.cells #[.slice a0 x.name.length p0, .slice a1 x.params.length p1, .int .i64 z_rk, .int .i64 z_rn, .slice a2 x.body.length p2] 63)) w' → (Later (w.alloc (.cells #[.slice a0 x.name.length p0, .slice a1 x.params.length p1, .int .i64 z_rk, .int .i64 z_rn, .slice a2 x.body.length p2] 63)) w' ∧ w'.cell? ⟨w.heap.size, 0, none⟩ = some (.slice a0 x.name.length p0) ∧ w'.cell? ⟨w.heap.size, 1, none⟩ = some (.slice a1 x.params.length p1) ∧ w'.cell? ⟨K, 0, none⟩ = some (.int .i64 s))) := fun w' ll => ⟨ll, by rw [Below.cell ll (p := ⟨w.heap.size, 0, none⟩) (by simp)]; simp, by rw [Below.cell ll (p := ⟨w.heap.size, 1, none⟩) (by simp)]; simp, by rw [Below.cell ((later1 _ _).trans ll) (p := ⟨K, 0, none⟩) hKw]; exact c0⟩
        go_region_held3 (fun w' => Later (w.alloc (.cells #[.slice a0 x.name.length p0, .slice a1 x.params.length p1, .int .i64 z_rk, .int .i64 z_rn, .slice a2 x.body.length p2] 63)) w' ∧ w'.cell? ⟨w.heap.size, 0, none⟩ = some (.slice a0 x.name.length p0) ∧ w'.cell? ⟨w.heap.size, 1, none⟩ = some (.slice a1 x.params.length p1) ∧ w'.cell? ⟨K, 0, none⟩ = some (.int .i64 s)) (first | exact HSS.out _ (Later.drew _) | exact HSS.out _ ((Later.drew _).trans l1)) (first | (go_at_call 43; refine (hN _ ((later1 _ _).trans (Later.drew _))).mono ?_; rintro e w1 ⟨rfl, hww⟩; obtain rfl := hww.symm) | (go_at_call 42; refine (hP _ ((later1 _ _).trans (Later.drew _))).mono ?_; rintro e w1 ⟨rfl, l1⟩))
        all_goals
          go_wp2_with fail
          go_meet
          case rel => exact ⟨by rw [HH.out]; rfl, (Later.drew _).trans l1⟩
  case rest =>
    obtain ⟨rfl, lc⟩ := hcut
    have Lc : Later w wc := (later1 _ _).trans lc
    obtain ⟨hcc, _⟩ := bcell lc
    have hz : w.heap.size < wc.heap.size := by have := lc.size; simp at this; omega
    have hcK : wc.cell? ⟨K, 0, none⟩ = some (.int .i64 s) := by rw [Below.cell Lc (p := ⟨K, 0, none⟩) hKw]; exact c0
    have x2 : wc.cell? ⟨w.heap.size, 2, none⟩ = some (.int .i64 z_rk) := by rw [hcc _ _ (by simp)]; simp
    have x3 : wc.cell? ⟨w.heap.size, 3, none⟩ = some (.int .i64 z_rn) := by rw [hcc _ _ (by simp)]; simp
    have hKc : K < wc.heap.size := by have := Lc.size; omega
    cases hd
    · have hr : R = none := HR.out
      subst hr
      go_wp2_with fail
      go_ret
      exact SvP.no (OnlyK.of_later Lc) rfl rfl (HS.out _ Lc)
    · go_upto_region 3 with fail
      go_cut [32] from 19 (fun s32 wd => s32 = .bool (!tt) ∧ Later wc wd)
      case first =>
        by_cases k0 : z_rk = 0
        · subst k0
          by_cases k1 : z_rn = 0
          · subst k1
            as_aux_lemma =>
              go_quiet (fail)
              all_goals
                go_wp2_with fail
                go_meet
                case rel => exact ⟨by rw [HY.out]; rfl, later_drewN (Later.refl _) _⟩
          · have k1' := neb k1
            as_aux_lemma =>
              have HSS : Hid (∀ w', Later wc w' → (Later wc w' ∧ w'.cell? ⟨w.heap.size, 2, none⟩ = some (.int .i64 0) ∧ w'.cell? ⟨w.heap.size, 3, none⟩ = some (.int .i64 z_rn) ∧ w'.cell? ⟨K, 0, none⟩ = some (.int .i64 s))) := fun w' ll => ⟨ll, by rw [Below.cell ll (p := ⟨w.heap.size, 2, none⟩) hz]; exact x2, by rw [Below.cell ll (p := ⟨w.heap.size, 3, none⟩) hz]; exact x3, by rw [Below.cell ll (p := ⟨K, 0, none⟩) hKc]; exact hcK⟩
              go_region_held3 (fun w' => Later wc w' ∧ w'.cell? ⟨w.heap.size, 2, none⟩ = some (.int .i64 0) ∧ w'.cell? ⟨w.heap.size, 3, none⟩ = some (.int .i64 z_rn) ∧ w'.cell? ⟨K, 0, none⟩ = some (.int .i64 s)) (first | exact HSS.out _ (Later.drew _) | exact HSS.out _ ((Later.drew _).trans l1)) ((go_at_call 44; refine (hT _).mono ?_; rintro e w1 ⟨rfl, l1⟩))
              all_goals
                go_wp2_with fail
                go_meet
                case rel => exact ⟨by rw [HY.out, k1']; rfl, (Later.drew _).trans l1⟩
        · have k0' := neb k0
          as_aux_lemma =>
            have HSS : Hid (∀ w', Later wc w' → (Later wc w' ∧ w'.cell? ⟨w.heap.size, 2, none⟩ = some (.int .i64 z_rk) ∧ w'.cell? ⟨w.heap.size, 3, none⟩ = some (.int .i64 z_rn) ∧ w'.cell? ⟨K, 0, none⟩ = some (.int .i64 s))) := fun w' ll => ⟨ll, by rw [Below.cell ll (p := ⟨w.heap.size, 2, none⟩) hz]; exact x2, by rw [Below.cell ll (p := ⟨w.heap.size, 3, none⟩) hz]; exact x3, by rw [Below.cell ll (p := ⟨K, 0, none⟩) hKc]; exact hcK⟩
            go_region_held3 (fun w' => Later wc w' ∧ w'.cell? ⟨w.heap.size, 2, none⟩ = some (.int .i64 z_rk) ∧ w'.cell? ⟨w.heap.size, 3, none⟩ = some (.int .i64 z_rn) ∧ w'.cell? ⟨K, 0, none⟩ = some (.int .i64 s)) (first | exact HSS.out _ (Later.drew _) | exact HSS.out _ ((Later.drew _).trans l1)) ((go_at_call 44; refine (hT _).mono ?_; rintro e w1 ⟨rfl, l1⟩))
            all_goals
              go_wp2_with fail
              go_meet
              case rel => exact ⟨by rw [HY.out, k0']; rfl, (Later.drew _).trans l1⟩
      case rest =>
        obtain ⟨rfl, ld⟩ := hcut
        have Ld := Lc.trans ld
        obtain ⟨hcd, _⟩ := bcell ld
        cases tt
        · have hr : R = none := HR.out
          subst hr
          go_wp2_with fail
          go_ret
          exact SvP.no (OnlyK.of_later Ld) rfl rfl (HS.out _ Ld)
        · have hr : R = RB := HR.out
          subst hr
          go_wp2_with fail
          refine (hI _ Ld).mono ?_
          rintro e w5 ⟨o5, hm⟩
          have o := (OnlyK.of_later (K := K) Ld).trans o5
          cases R with
          | none =>
            obtain ⟨rfl, p', hS5⟩ := hm
            go_wp2_with fail
            go_ret
            exact SvP.no o rfl rfl hS5
          | some l =>
            obtain ⟨rfl, hS5⟩ := hm
            go_wp2_with fail
            go_ret
            exact SvP.yes o rfl rfl hS5 rfl

end Go.Proofs.Ytpgfajpjcibmgaa
