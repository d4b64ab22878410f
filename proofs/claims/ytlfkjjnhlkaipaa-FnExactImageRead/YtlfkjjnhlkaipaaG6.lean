/- Images by the program: ImageOk. -/
import Derived.Test.YtlfkjjnhlkaipaaG5
namespace Go.Proofs.Ytlfkjjnhlkaipaa
open Go.RowKit

/-- May an image be, its length aside? -/
def imB0 (x : Im) : Bool := decide (x.structs.length ≤ 6) && (decide (x.codes.length ≤ 8) && (plB x.main (x.codes.length : Int) && ((match x.codes[x.main.toNat]? with | some c => c.params == 0 | none => false) && (x.structs.all (fun l => decide (l.l.length ≤ 5)) && x.codes.all (cdB (x.structs.length : Int) (x.codes.length : Int))))))
def imB (x : Im) : Bool := imB0 x && decide (imSz x ≤ 200000)
set_option maxRecDepth 20000 in
set_option maxHeartbeats 1000000 in
theorem iimok_b (x : Im) (sv cv : Value) (w : World) (h0 : RdL w 1 sv (Bs.dats x.structs)) (h1 : RdL w 4 cv (Cd.dats x.codes)) (hsz : x.sz ≤ 1048576) {b : Bool} (hb : imB x = b) :
    Calls Try.prog 51 #[.agg #[sv, cv, .int .i64 x.main]] w fun e w' => e = .returned (.bool b) ∧ Later w w' := by
  obtain ⟨a, cap, rfl, hl⟩ := Bs.slice h0
  obtain ⟨a', cap', rfl, hl'⟩ := Cd.slice h1
  obtain ⟨wa, hwa⟩ := hidq (w.alloc (.cells #[.slice a x.structs.length cap, .slice a' x.codes.length cap', .int .i64 x.main] 32))
  have la : Later w wa := by rw [hwa.out]; exact later1 _ _
  have hBl : w.heap.size < wa.heap.size := by rw [hwa.out, World.size_alloc]; omega
  have HX : Hid (∀ w', Later wa w' → w'.cell? ⟨w.heap.size, 0, none⟩ = some (.slice a x.structs.length cap) ∧ w'.cell? ⟨w.heap.size, 1, none⟩ = some (.slice a' x.codes.length cap') ∧ w'.cell? ⟨w.heap.size, 2, none⟩ = some (.int .i64 x.main) ∧ w.heap.size < w'.heap.size) := fun w' l => by
    refine ⟨?_, ?_, ?_, Nat.lt_of_lt_of_le hBl l.size⟩
    · rw [Below.cell l (p := ⟨w.heap.size, 0, none⟩) hBl, hwa.out]; simp
    · rw [Below.cell l (p := ⟨w.heap.size, 1, none⟩) hBl, hwa.out]; simp
    · rw [Below.cell l (p := ⟨w.heap.size, 2, none⟩) hBl, hwa.out]; simp
  have HI : Hid (∀ w', Later wa w' → Calls Try.prog 52 #[.pointer (some ⟨w.heap.size, 0, none⟩)] w' fun e w2 => e = .returned (.int .i64 (imSz x : Nat)) ∧ Later w' w2) := fun w' l => isize_any w.heap.size x _ _ w' (HX.out w' l).1 (HX.out w' l).2.1 (HX.out w' l).2.2.2 (RdL.later (la.trans l) h0) (RdL.later (la.trans l) h1) hsz
  unfold imB imB0 at hb
  by_cases s6 : x.structs.length ≤ 6
  case neg =>
    rw [decide_eq_false s6, Bool.false_and, Bool.false_and] at hb
    subst hb
    have g1 : (6 : Int) < (x.structs.length : Int) := by omega
    clear h0 h1 HX HI
    go_enter Try.func51, Try.ntmps51
    go_wp2_with fail
    go_ret
    exact ⟨rfl, later1 _ _⟩
  rw [decide_eq_true s6, Bool.true_and] at hb
  have g1 : ¬ (6 : Int) < (x.structs.length : Int) := by omega
  by_cases c8 : x.codes.length ≤ 8
  case neg =>
    rw [decide_eq_false c8, Bool.false_and, Bool.false_and] at hb
    subst hb
    have g2 : (8 : Int) < (x.codes.length : Int) := by omega
    clear h0 h1 HX HI
    go_enter Try.func51, Try.ntmps51
    go_wp2_with fail
    go_ret
    exact ⟨rfl, later1 _ _⟩
  rw [decide_eq_true c8, Bool.true_and] at hb
  have g2 : ¬ (8 : Int) < (x.codes.length : Int) := by omega
  cases e3 : plB x.main (x.codes.length : Int) with
  | false =>
    rw [e3, Bool.false_and, Bool.false_and] at hb
    subst hb
    clear h0 h1 HX HI
    generalize x.main = zm at *
    go_enter Try.func51, Try.ntmps51
    go_wp2_with (go_at_call 79; refine (place_b (by assumption) _).mono ?_; rintro e w1 ⟨rfl, hww⟩; obtain rfl := hww.symm)
    go_ret
    exact ⟨rfl, later1 _ _⟩
  | true =>
  rw [e3, Bool.true_and] at hb
  have hmn : 0 ≤ x.main ∧ x.main < (x.codes.length : Int) := by
    unfold plB at e3
    rw [Bool.and_eq_true, decide_eq_true_eq, decide_eq_true_eq] at e3
    exact e3
  obtain ⟨mn, hmv⟩ : ∃ mn : Nat, x.main = (mn : Int) := ⟨x.main.toNat, by omega⟩
  have hml : mn < x.codes.length := by omega
  have htn : x.main.toNat = mn := by omega
  rw [htn, List.getElem?_eq_getElem hml] at hb
  dsimp only at hb
  have ma0 : (0 : Int) ≤ (mn : Int) := by omega
  have ma1 : (mn : Int) < (x.codes.length : Int) := by omega
  rw [hmv] at hwa HX e3 ⊢
  obtain ⟨gm, om, u0, u1, rfl, hgm, m0, m1, m2, m3, _, _⟩ := Cd.elem h1 mn hml
  cases e4 : (x.codes[mn].params == 0) with
  | false =>
    rw [e4, Bool.false_and, Bool.false_and] at hb
    subst hb
    have e4' : (x.codes[mn].params != 0) = true := by simpa using e4
    generalize x.codes[mn].params = zp at *
    clear h0 h1 HX HI m0 m2 m3
    go_enter Try.func51, Try.ntmps51
    go_wp2_with (go_at_call 79; refine (place_b (by assumption) _).mono ?_; rintro e w1 ⟨rfl, hww⟩; obtain rfl := hww.symm)
    go_ret
    exact ⟨rfl, later1 _ _⟩
  | true =>
  rw [e4, Bool.true_and] at hb
  have e4' : (x.codes[mn].params != 0) = false := by simpa using e4
  have HAll : Hid ((x.structs.all (fun l => decide (l.l.length ≤ 5)) && x.codes.all (cdB (x.structs.length : Int) (x.codes.length : Int)) && decide (imSz x ≤ 200000)) = b) := hb
  have H0 : Hid (∀ w', Later wa w' → RdL w' 1 (.slice a x.structs.length cap) (Bs.dats x.structs)) := fun w' l => RdL.later (la.trans l) h0
  have H1 : Hid (∀ w', Later wa w' → RdL w' 4 (.slice (some ⟨gm, om, none⟩) x.codes.length cap') (Cd.dats x.codes)) := fun w' l => RdL.later (la.trans l) h1
  generalize x.codes[mn].params = zp at *
  clear h0 h1 m0 m2 m3 hb
  go_enter Try.func51, Try.ntmps51
  go_wp2_with (go_at_call 79; refine (place_b (by assumption) _).mono ?_; rintro e w1 ⟨rfl, hww⟩; obtain rfl := hww.symm)
  rw [← hwa.out]
  go_loopw [38] (fun i wr => ∃ (k : Nat), i = .int .i64 (k : Int) ∧ k ≤ x.structs.length ∧ wr = wa ∧ ∀ y ∈ x.structs.take k, y.l.length ≤ 5) (fun i _ => x.structs.length - (intOf i).toNat)
  case atStart => exact ⟨0, rfl, Nat.zero_le _, rfl, fun y hy => by cases hy⟩
  case round =>
    obtain ⟨k, rfl, hk, rfl, hS⟩ := hrel
    by_cases hlt : k < x.structs.length
    · obtain ⟨g, off, v0, rfl, hg, c0, r0⟩ := Bs.elem (H0.out _ (Later.refl _)) k hlt
      rw [Nat.mul_one] at c0
      obtain ⟨a0, p0, rfl, hl0⟩ := Bo.slice r0
      have i1 : (k : Int) < (x.structs.length : Int) := by omega
      by_cases h5 : x.structs[k].l.length ≤ 5
      · have g5 : ¬ (5 : Int) < (x.structs[k].l.length : Int) := by omega
        have HT : Hid (∀ y ∈ x.structs.take (k + 1), y.l.length ≤ 5) := fun y hy => by
          rw [List.take_succ_eq_append_getElem hlt] at hy
          rcases List.mem_append.1 hy with hy | hy
          · exact hS y hy
          · rw [List.mem_singleton.1 hy]; exact h5
        clear hS r0
        go_wp2_with fail
        go_roundw
        case rel => exact ⟨k + 1, by go_num, by omega, trivial, HT.out⟩
        case measure => simp [intOf]; omega
      · have g5 : (5 : Int) < (x.structs[k].l.length : Int) := by omega
        have hbf : b = false := by
          have : x.structs.all (fun l => decide (l.l.length ≤ 5)) = false := by
            rw [List.all_eq_false]
            exact ⟨_, List.getElem_mem hlt, by simp; omega⟩
          rw [← HAll.out, this, Bool.false_and, Bool.false_and]
        subst hbf
        clear hS r0 HAll
        go_wp2_with fail
        go_ret
        exact ⟨rfl, la⟩
    · have i1 : ¬ (k : Int) < (x.structs.length : Int) := by omega
      have i2 : decide ((k : Int) < (x.structs.length : Int)) = false := decide_eq_false i1
      have hall : x.structs.all (fun l => decide (l.l.length ≤ 5)) = true := by
        rw [List.all_eq_true]
        intro y hy
        exact decide_eq_true (hS y (by rw [List.take_of_length_le (by omega)]; exact hy))
      have HA2 : Hid ((x.codes.all (cdB (x.structs.length : Int) (x.codes.length : Int)) && decide (imSz x ≤ 200000)) = b) := by unfold Hid; rw [← HAll.out, hall, Bool.true_and]
      obtain ⟨t0, t1, t2, _⟩ := HX.out wr (Later.refl _)
      clear hall HAll hS hwa
      go_wp2_with fail
      obtain ⟨wo, hwo⟩ := hidq wr
      rw [← hwo.out] at la HX HI H0 H1 t0 t1 t2 hBl ⊢
      clear hwo
      go_loopw [49] (fun i wr => ∃ (k : Nat), i = .int .i64 (k : Int) ∧ k ≤ x.codes.length ∧ Later wo wr ∧ ∀ y ∈ x.codes.take k, cdB (x.structs.length : Int) (x.codes.length : Int) y = true) (fun i _ => x.codes.length - (intOf i).toNat)
      case atStart => exact ⟨0, rfl, Nat.zero_le _, Later.refl _, fun y hy => by cases hy⟩
      case round =>
        obtain ⟨k, rfl, hk, lr, hS⟩ := hrel
        obtain ⟨t0, t1, t2, t3⟩ := HX.out wr lr
        by_cases hlt : k < x.codes.length
        · obtain ⟨g, off, v0, v1, eg, hg, c0, c1, c2, c3, r0, r1⟩ := Cd.elem (H1.out wr lr) k hlt
          cases eg
          have i1 : (k : Int) < (x.codes.length : Int) := by omega
          have HT : Hid (∀ bb, cdB (x.structs.length : Int) (x.codes.length : Int) x.codes[k] = bb → (bb = true → ∀ y ∈ x.codes.take (k + 1), cdB (x.structs.length : Int) (x.codes.length : Int) y = true) ∧ (bb = false → b = false)) := fun bb hbb => by
            refine ⟨fun e y hy => ?_, fun e => ?_⟩
            · rw [List.take_succ_eq_append_getElem hlt] at hy
              rcases List.mem_append.1 hy with hy | hy
              · exact hS y hy
              · rw [List.mem_singleton.1 hy, hbb, e]
            · have : x.codes.all (cdB (x.structs.length : Int) (x.codes.length : Int)) = false := by
                rw [List.all_eq_false]
                exact ⟨_, List.getElem_mem hlt, by rw [hbb, e]; exact Bool.false_ne_true⟩
              rw [← HA2.out, this, Bool.false_and]
          have hx := codeok_b w.heap.size gm (om + k * 4) x.structs.length x.codes.length _ _ _ _ x.codes[k] v0 v1 wr t0 t1 c0 c1 c2 c3 t3 hg r0 r1 hl hl' rfl
          generalize hii : cdB (x.structs.length : Int) (x.codes.length : Int) x.codes[k] = bb at *
          have HT'' : Hid ((bb = true → ∀ y ∈ x.codes.take (k + 1), cdB (x.structs.length : Int) (x.codes.length : Int) y = true) ∧ (bb = false → b = false)) := HT.out bb rfl
          clear hS HT hii r0 r1 c0 c1 c2 c3
          go_wp2_with fail
          refine hx.mono ?_
          rintro e w1 ⟨rfl, l1⟩
          cases bb with
          | false =>
            have hbf := HT''.out.2 rfl
            subst hbf
            clear hx HA2
            go_wp2_with fail
            go_ret
            exact ⟨rfl, la.trans (lr.trans l1)⟩
          | true =>
            clear hx
            go_wp2_with fail
            go_roundw
            case rel => exact ⟨k + 1, by go_num, by omega, lr.trans l1, HT''.out.1 (by trivial)⟩
            case measure => simp [intOf]; omega
        · have i1 : ¬ (k : Int) < (x.codes.length : Int) := by omega
          have i2 : decide ((k : Int) < (x.codes.length : Int)) = false := decide_eq_false i1
          have hall : x.codes.all (cdB (x.structs.length : Int) (x.codes.length : Int)) = true := by
            rw [List.all_eq_true]
            intro y hy
            exact hS y (by rw [List.take_of_length_le (by omega)]; exact hy)
          have hmb : decide (imSz x ≤ 200000) = b := by rw [← HA2.out, hall, Bool.true_and]
          have hx := HI.out wr lr
          have HD : Hid (decide (((imSz x : Nat) : Int) ≤ 200000) = b) := by
            unfold Hid
            rw [← hmb]
            apply decide_eq_decide.2
            omega
          generalize imSz x = M at *
          clear hS HA2 hall hmb HI H0 H1
          go_wp2_with fail
          refine hx.mono ?_
          rintro e w1 ⟨rfl, l1⟩
          clear hx
          go_wp2_with fail
          go_ret
          exact ⟨by rw [← HD.out]; first | rfl | simp, la.trans (lr.trans l1)⟩
end Go.Proofs.Ytlfkjjnhlkaipaa
