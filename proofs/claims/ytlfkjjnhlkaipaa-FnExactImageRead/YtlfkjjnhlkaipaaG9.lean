/- Images by the model: l11ok, ImageOk, ImageBytes. -/
import Derived.Test.YtlfkjjnhlkaipaaG8
import Derived.Test.YtlfkjjnhlkaipaaB3
namespace Go.Proofs.Ytlfkjjnhlkaipaa
open Go.RowKit

theorem slB_len (fr : Int) : ∀ (l : List Int) (lo : Int), slB fr lo l = true → lo ≤ fr → (l.length : Int) ≤ fr - lo
  | [], lo, _, h => by simp; omega
  | s :: r, lo, h, hl => by
    rw [slB, Bool.and_eq_true, inB_iff] at h
    have := slB_len fr r (s + 1) h.2 (by omega)
    rw [List.length_cons]
    omega
theorem slB_mem (fr : Int) : ∀ (l : List Int) (lo : Int), slB fr lo l = true → ∀ s ∈ l, lo ≤ s ∧ s ≤ fr - 1
  | [], lo, _, s, hs => by cases hs
  | t :: r, lo, h, s, hs => by
    rw [slB, Bool.and_eq_true, inB_iff] at h
    rcases List.mem_cons.1 hs with rfl | hs
    · exact h.1
    · have := slB_mem fr r (t + 1) h.2 s hs
      omega
theorem mpB_mem (fr : Int) : ∀ (is : List Is) (pc : Nat) (ms : List Ma), mpB fr pc is ms = true → ms.length ≤ is.length ∧ ∀ m ∈ ms, (pc : Int) ≤ m.pc ∧ m.pc < (pc : Int) + is.length ∧ slB fr 3 m.slots = true
  | [], pc, ms, h => by
    rw [mpB] at h
    have : ms.length = 0 := by simpa using h
    have e : ms = [] := List.eq_nil_of_length_eq_zero this
    subst e
    exact ⟨Nat.le_refl _, fun m hm => by cases hm⟩
  | i :: r, pc, ms, h => by
    cases hh : hmB i.op with
    | false =>
      rw [mpB_skip hh] at h
      obtain ⟨h1, h2⟩ := mpB_mem fr r (pc + 1) ms h
      refine ⟨by rw [List.length_cons]; omega, fun m hm => ?_⟩
      obtain ⟨a, b, c⟩ := h2 m hm
      rw [List.length_cons]
      exact ⟨by omega, by omega, c⟩
    | true =>
      cases ms with
      | nil => exact ⟨Nat.zero_le _, fun m hm => by cases hm⟩
      | cons m t =>
        rw [mpB_some hh, Bool.and_eq_true, Bool.and_eq_true] at h
        obtain ⟨h1, h2⟩ := mpB_mem fr r (pc + 1) t h.2.2
        refine ⟨by rw [List.length_cons, List.length_cons]; omega, fun m' hm => ?_⟩
        rw [List.length_cons]
        rcases List.mem_cons.1 hm with rfl | hm
        · have e : m'.pc = (pc : Int) := by simpa using h.1
          exact ⟨by omega, by omega, h.2.1⟩
        · obtain ⟨a, b, c⟩ := h2 m' hm
          exact ⟨by omega, by omega, c⟩
theorem insB_w {ns nc fr ni : Int} {i : Is} (h : insB ns nc fr ni i = true) : W1 i.op ∧ W1 i.a ∧ W1 i.b ∧ W1 i.c := by
  unfold insB plB at h
  simp only [Bool.and_eq_true, decide_eq_true_eq, inB_iff] at h
  unfold W1
  omega
theorem cdB_rg {ns nc : Int} {c : Cd} (h : cdB ns nc c = true) (hok : ∀ y ∈ c.ins, y.Ok) : c.Rg := by
  unfold cdB at h
  rw [Bool.and_eq_true, Bool.and_eq_true, Bool.and_eq_true, Bool.and_eq_true, inB_iff, inB_iff, inB_iff, List.all_eq_true] at h
  obtain ⟨h1, h2, h3, h4, h5⟩ := h
  obtain ⟨m1, m2⟩ := mpB_mem c.frame c.ins 0 c.maps h5
  refine ⟨by unfold W2; omega, by unfold W2; omega, by unfold W2; omega, by unfold W2; omega, fun i hi => ?_, fun m hm => ?_⟩
  · obtain ⟨a, b, d, e⟩ := insB_w (h4 i hi)
    exact ⟨a, b, d, e, hok i hi⟩
  · obtain ⟨a, b, d⟩ := m2 m hm
    have l := slB_len c.frame m.slots 3 d (by omega)
    refine ⟨by unfold W2; omega, by unfold W2; omega, fun s hs => ?_⟩
    have := slB_mem c.frame m.slots 3 d s hs
    unfold W2
    omega
theorem imB_rg {x : Im} (h : imB0 x = true) (hok : ∀ c ∈ x.codes, ∀ y ∈ c.ins, y.Ok) : x.Rg := by
  unfold imB0 plB at h
  simp only [Bool.and_eq_true, decide_eq_true_eq, List.all_eq_true] at h
  obtain ⟨h1, h2, h3, h4, h5, h6⟩ := h
  refine ⟨by unfold W2; omega, by unfold W2; omega, by unfold W2; omega, fun s hs => ?_, fun c hc => cdB_rg (h6 c hc) (hok c hc)⟩
  have := h5 s hs
  unfold W2
  omega
set_option maxRecDepth 20000 in
set_option maxHeartbeats 2000000 in
theorem lok_b (x : Im) (sv cv : Value) (w : World) (h0 : RdL w 1 sv (Bs.dats x.structs)) (h1 : RdL w 4 cv (Cd.dats x.codes)) (hok : ∀ c ∈ x.codes, ∀ y ∈ c.ins, y.Ok) {b : Bool} (hb : imB0 x = b) :
    Calls Try.prog 43 #[.agg #[sv, cv, .int .i64 x.main]] w fun e w' => e = .returned (.bool b) ∧ Later w w' := by
  obtain ⟨a, cap, rfl, hl⟩ := Bs.slice h0
  obtain ⟨a', cap', rfl, hl'⟩ := Cd.slice h1
  obtain ⟨wa, hwa⟩ := hidq (w.alloc (.cells #[.slice a x.structs.length cap, .slice a' x.codes.length cap', .int .i64 x.main] 32))
  have la : Later w wa := by rw [hwa.out]; exact later1 _ _
  have hBl : w.heap.size < wa.heap.size := by rw [hwa.out, World.size_alloc]; omega
  have HX : Hid (∀ w', Later wa w' → w'.cell? ⟨w.heap.size, 0, none⟩ = some (.slice a x.structs.length cap) ∧ w'.cell? ⟨w.heap.size, 1, none⟩ = some (.slice a' x.codes.length cap') ∧ w'.cell? ⟨w.heap.size, 2, none⟩ = some (.int .i64 x.main) ∧ w.heap.size < w'.heap.size) := fun w' l => by
    refine ⟨?_, ?_, ?_, Nat.lt_of_lt_of_le hBl l.size⟩
    · rw [Below.cell l (p := ⟨w.heap.size, 0, none⟩) hBl, hwa.out]; simp
    · rw [Below.cell l (p := ⟨w.heap.size, 1, none⟩) hBl, hwa.out]; simp
    · rw [Below.cell l (p := ⟨w.heap.size, 2, none⟩) hBl, hwa.out]; simp
  unfold imB0 at hb
  by_cases s6 : x.structs.length ≤ 6
  case neg =>
    rw [decide_eq_false s6, Bool.false_and] at hb
    subst hb
    have g1 : (6 : Int) < (x.structs.length : Int) := by omega
    clear h0 h1 HX hok
    go_enter Try.func43, Try.ntmps43
    go_wp2_with fail
    go_ret
    exact ⟨rfl, later1 _ _⟩
  rw [decide_eq_true s6, Bool.true_and] at hb
  have g1 : ¬ (6 : Int) < (x.structs.length : Int) := by omega
  have d1 : decide ((6 : Int) < (x.structs.length : Int)) = false := decide_eq_false g1
  by_cases c8 : x.codes.length ≤ 8
  case neg =>
    rw [decide_eq_false c8, Bool.false_and] at hb
    subst hb
    have g2 : (8 : Int) < (x.codes.length : Int) := by omega
    clear h0 h1 HX hok
    go_enter Try.func43, Try.ntmps43
    go_wp2_with fail
    go_ret
    exact ⟨rfl, later1 _ _⟩
  rw [decide_eq_true c8, Bool.true_and] at hb
  have g2 : ¬ (8 : Int) < (x.codes.length : Int) := by omega
  have d2 : decide ((8 : Int) < (x.codes.length : Int)) = false := decide_eq_false g2
  cases e3 : plB x.main (x.codes.length : Int) with
  | false =>
    rw [e3, Bool.false_and] at hb
    subst hb
    clear h0 h1 HX hok
    generalize x.main = zm at *
    go_enter Try.func43, Try.ntmps43
    go_wp2_with (go_at_call 67; refine (lin_b (by assumption) _).mono ?_; rintro e w1 ⟨rfl, hww⟩; obtain rfl := hww.symm)
    go_ret
    exact ⟨rfl, later1 _ _⟩
  | true =>
  rw [e3, Bool.true_and] at hb
  have hmn : 0 ≤ x.main ∧ x.main < (x.codes.length : Int) := by
    unfold plB at e3
    rw [Bool.and_eq_true, decide_eq_true_eq, decide_eq_true_eq] at e3
    exact e3
  obtain ⟨mn, hmv⟩ : ∃ mn : Nat, x.main = (mn : Int) := ⟨x.main.toNat, by omega⟩
  have hml : mn < x.codes.length := by omega
  have htn : x.main.toNat = mn := by omega
  rw [htn, List.getElem?_eq_getElem hml] at hb
  dsimp only at hb
  have ma0 : (0 : Int) ≤ (mn : Int) := by omega
  have ma1 : (mn : Int) < (x.codes.length : Int) := by omega
  rw [hmv] at hwa HX e3 ⊢
  have HAll : Hid (((x.codes[mn].params == 0) && (x.structs.all (fun l => decide (l.l.length ≤ 5)) && x.codes.all (cdB (x.structs.length : Int) (x.codes.length : Int)))) = b) := hb
  have H0 : Hid (∀ w', Later wa w' → RdL w' 1 (.slice a x.structs.length cap) (Bs.dats x.structs)) := fun w' l => RdL.later (la.trans l) h0
  have H1 : Hid (∀ w', Later wa w' → RdL w' 4 (.slice a' x.codes.length cap') (Cd.dats x.codes)) := fun w' l => RdL.later (la.trans l) h1
  have HOk : Hid (∀ c ∈ x.codes, ∀ y ∈ c.ins, y.Ok) := hok
  clear h0 h1 hb hok
  go_enter Try.func43, Try.ntmps43
  go_wp2_with (go_at_call 67; refine (lin_b (by assumption) _).mono ?_; rintro e w1 ⟨rfl, hww⟩; obtain rfl := hww.symm)
  rw [← hwa.out]
  go_loopw [3] (fun i wr => ∃ (k : Nat), i = .int .i64 (k : Int) ∧ k ≤ x.structs.length ∧ Later wa wr ∧ ∀ y ∈ x.structs.take k, y.l.length ≤ 5) (fun i _ => x.structs.length - (intOf i).toNat)
  case atStart => exact ⟨0, rfl, Nat.zero_le _, Later.refl _, fun y hy => by cases hy⟩
  case round =>
    obtain ⟨k, rfl, hk, lr, hS⟩ := hrel
    obtain ⟨t0, t1, t2, t3⟩ := HX.out wr lr
    by_cases hlt : k < x.structs.length
    · obtain ⟨g, off, v0, rfl, hg, c0, r0⟩ := Bs.elem (H0.out _ lr) k hlt
      rw [Nat.mul_one] at c0
      obtain ⟨a0, p0, rfl, hl0⟩ := Bo.slice r0
      have i1 : (k : Int) < (x.structs.length : Int) := by omega
      by_cases h5 : x.structs[k].l.length ≤ 5
      · have g5 : ¬ (5 : Int) < (x.structs[k].l.length : Int) := by omega
        have HT : Hid (∀ y ∈ x.structs.take (k + 1), y.l.length ≤ 5) := fun y hy => by
          rw [List.take_succ_eq_append_getElem hlt] at hy
          rcases List.mem_append.1 hy with hy | hy
          · exact hS y hy
          · rw [List.mem_singleton.1 hy]; exact h5
        clear hS r0
        go_wp2_with fail
        go_roundw
        case rel => exact ⟨k + 1, by go_num, by omega, lr, HT.out⟩
        case measure => simp [intOf]; omega
      · have g5 : (5 : Int) < (x.structs[k].l.length : Int) := by omega
        have hbf : b = false := by
          have : x.structs.all (fun l => decide (l.l.length ≤ 5)) = false := by
            rw [List.all_eq_false]
            exact ⟨_, List.getElem_mem hlt, by simp; omega⟩
          rw [← HAll.out, this, Bool.false_and, Bool.and_false]
        subst hbf
        clear hS r0 HAll
        go_wp2_with fail
        go_ret
        exact ⟨rfl, la.trans lr⟩
    · have i1 : ¬ (k : Int) < (x.structs.length : Int) := by omega
      have i2 : decide ((k : Int) < (x.structs.length : Int)) = false := decide_eq_false i1
      have hall : x.structs.all (fun l => decide (l.l.length ≤ 5)) = true := by
        rw [List.all_eq_true]
        intro y hy
        exact decide_eq_true (hS y (by rw [List.take_of_length_le (by omega)]; exact hy))
      have HA2 : Hid (((x.codes[mn].params == 0) && x.codes.all (cdB (x.structs.length : Int) (x.codes.length : Int))) = b) := by unfold Hid; rw [← HAll.out, hall, Bool.true_and]
      clear hall HAll hS hwa
      go_wp2_with fail
      obtain ⟨wo, hwo⟩ := hidq wr
      rw [← hwo.out] at lr ⊢
      clear hwo t0 t1 t2 t3
      go_loopw [4] (fun i wr => ∃ (k : Nat), i = .int .i64 (k : Int) ∧ k ≤ x.codes.length ∧ Later wa wr ∧ ∀ y ∈ x.codes.take k, cdB (x.structs.length : Int) (x.codes.length : Int) y = true) (fun i _ => x.codes.length - (intOf i).toNat)
      case atStart => exact ⟨0, rfl, Nat.zero_le _, lr, fun y hy => by cases hy⟩
      case round =>
        obtain ⟨k, rfl, hk, lr2, hS⟩ := hrel
        obtain ⟨t0, t1, t2, t3⟩ := HX.out wr lr2
        by_cases hlt : k < x.codes.length
        · obtain ⟨g, off, v0, v1, eg, hg, c0, c1, c2, c3, r0, r1⟩ := Cd.elem (H1.out wr lr2) k hlt
          subst eg
          have i1 : (k : Int) < (x.codes.length : Int) := by omega
          have HT : Hid (∀ bb, cdB (x.structs.length : Int) (x.codes.length : Int) x.codes[k] = bb → (bb = true → ∀ y ∈ x.codes.take (k + 1), cdB (x.structs.length : Int) (x.codes.length : Int) y = true) ∧ (bb = false → b = false)) := fun bb hbb => by
            refine ⟨fun e y hy => ?_, fun e => ?_⟩
            · rw [List.take_succ_eq_append_getElem hlt] at hy
              rcases List.mem_append.1 hy with hy | hy
              · exact hS y hy
              · rw [List.mem_singleton.1 hy, hbb, e]
            · have : x.codes.all (cdB (x.structs.length : Int) (x.codes.length : Int)) = false := by
                rw [List.all_eq_false]
                exact ⟨_, List.getElem_mem hlt, by rw [hbb, e]; exact Bool.false_ne_true⟩
              rw [← HA2.out, this, Bool.and_false]
          have hx := fun w' (l : Later wr w') => lcode_b x.structs.length x.codes.length a (some ⟨g, off, none⟩) cap cap' (mn : Int) x.codes[k] v0 v1 w' (RdL.later l r0) (RdL.later l r1) (HOk.out _ (List.getElem_mem hlt)) rfl
          have HS0 : Hid (∀ w', Later wr w' → w'.cell? ⟨w.heap.size, 0, none⟩ = some (.slice a x.structs.length cap) ∧ w'.cell? ⟨w.heap.size, 1, none⟩ = some (.slice (some ⟨g, off, none⟩) x.codes.length cap') ∧ w'.cell? ⟨w.heap.size, 2, none⟩ = some (.int .i64 (mn : Int)) ∧ w'.cell? ⟨g, off + k * 4, none⟩ = some (.int .i64 x.codes[k].frame) ∧ w'.cell? ⟨g, off + k * 4 + 1, none⟩ = some (.int .i64 x.codes[k].params) ∧ w'.cell? ⟨g, off + k * 4 + 2, none⟩ = some v0 ∧ w'.cell? ⟨g, off + k * 4 + 3, none⟩ = some v1) := fun w' l => by
            obtain ⟨u0, u1, u2, _⟩ := HX.out w' (lr2.trans l)
            have hC := fun o => Below.cell l (p := ⟨g, o, none⟩) hg
            rw [hC, hC, hC, hC]
            exact ⟨u0, u1, u2, c0, c1, c2, c3⟩
          obtain ⟨ai, ci, rfl, _⟩ := Is.slice r0
          obtain ⟨am, cm, rfl, _⟩ := Ma.slice r1
          generalize hii : cdB (x.structs.length : Int) (x.codes.length : Int) x.codes[k] = bb at *
          have HT'' : Hid ((bb = true → ∀ y ∈ x.codes.take (k + 1), cdB (x.structs.length : Int) (x.codes.length : Int) y = true) ∧ (bb = false → b = false)) := HT.out bb rfl
          clear hS HT hii r0 r1
          go_wp2_with fail
          go_region_held3 (fun w' => w'.cell? ⟨w.heap.size, 0, none⟩ = some (.slice a x.structs.length cap) ∧ w'.cell? ⟨w.heap.size, 1, none⟩ = some (.slice (some ⟨g, off, none⟩) x.codes.length cap') ∧ w'.cell? ⟨w.heap.size, 2, none⟩ = some (.int .i64 (mn : Int)) ∧ w'.cell? ⟨g, off + k * 4, none⟩ = some (.int .i64 x.codes[k].frame) ∧ w'.cell? ⟨g, off + k * 4 + 1, none⟩ = some (.int .i64 x.codes[k].params) ∧ w'.cell? ⟨g, off + k * 4 + 2, none⟩ = some (.slice ai x.codes[k].ins.length ci) ∧ w'.cell? ⟨g, off + k * 4 + 3, none⟩ = some (.slice am x.codes[k].maps.length cm)) (first | exact HS0.out _ (Later.drew _) | exact HS0.out _ ((Later.drew _).trans l1)) ((go_at_call 68; refine (hx _ (Later.drew _)).mono ?_; rintro e w1 ⟨rfl, l1⟩))
          all_goals
            cases bb with
            | false =>
              have hbf := HT''.out.2 rfl
              subst hbf
              clear hx HA2
              go_wp2_with fail
              go_ret
              exact ⟨rfl, la.trans (lr2.trans ((Later.drew _).trans l1))⟩
            | true =>
              clear hx
              go_wp2_with fail
              go_roundw
              case rel => exact ⟨k + 1, by go_num, by omega, lr2.trans ((Later.drew _).trans l1), HT''.out.1 (by trivial)⟩
              case measure => simp [intOf]; omega
        · have i1 : ¬ (k : Int) < (x.codes.length : Int) := by omega
          have i2 : decide ((k : Int) < (x.codes.length : Int)) = false := decide_eq_false i1
          have hall : x.codes.all (cdB (x.structs.length : Int) (x.codes.length : Int)) = true := by
            rw [List.all_eq_true]
            intro y hy
            exact hS y (by rw [List.take_of_length_le (by omega)]; exact hy)
          have HD : Hid ((x.codes[mn].params == 0) = b) := by unfold Hid; rw [← HA2.out, hall, Bool.and_true]
          obtain ⟨gm, om, u0, u1, eg, hgm, m0, m1, m2, m3, _, _⟩ := Cd.elem (H1.out wr lr2) mn hml
          subst eg
          generalize x.codes[mn].params = zp at *
          clear hS HA2 hall H0 H1 m0 m2 m3
          go_wp2_with fail
          go_ret
          exact ⟨by rw [← HD.out]; first | rfl | simp, la.trans lr2⟩
end Go.Proofs.Ytlfkjjnhlkaipaa
