/- Images by the program: codes. -/
import Derived.Test.YtlfkjjnhlkaipaaG3
namespace Go.Proofs.Ytlfkjjnhlkaipaa
open Go.RowKit

/-- May a code be? -/
def cdB (ns nc : Int) (c : Cd) : Bool := inB c.params 0 4 && (inB c.frame (3 + c.params) 1000 && (inB (c.ins.length : Int) 1 6000 && (c.ins.all (insB ns nc c.frame (c.ins.length : Int)) && mpB c.frame 0 c.ins c.maps)))
set_option maxRecDepth 20000 in
set_option maxHeartbeats 1000000 in
theorem codeok_b (B g o sn cn : Nat) (sa ca : Option Addr) (sc cc : Nat) (x : Cd) (iv mv : Value) (w : World) (hs : w.cell? ⟨B, 0, none⟩ = some (.slice sa sn sc)) (hc : w.cell? ⟨B, 1, none⟩ = some (.slice ca cn cc)) (hf : w.cell? ⟨g, o, none⟩ = some (.int .i64 x.frame)) (hp : w.cell? ⟨g, o + 1, none⟩ = some (.int .i64 x.params)) (hi : w.cell? ⟨g, o + 2, none⟩ = some iv) (hm : w.cell? ⟨g, o + 3, none⟩ = some mv) (hB : B < w.heap.size) (hg : g < w.heap.size)
    (h0 : RdL w 5 iv (Is.dats x.ins)) (h1 : RdL w 2 mv (Ma.dats x.maps)) (hn1 : (sn : Int) ≤ 9223372036854775807) (hn2 : (cn : Int) ≤ 9223372036854775807) {b : Bool} (hb : cdB sn cn x = b) :
    Calls Try.prog 80 #[.pointer (some ⟨B, 0, none⟩), .pointer (some ⟨g, o, none⟩)] w fun e w' => e = .returned (.bool b) ∧ Later w w' := by
  have HI := fun w' (l : Later w w') (y : Is) (hfr : 0 ≤ x.frame ∧ x.frame ≤ 1000) (n : Nat) (ia : Option Addr) (ic : Nat) (e : iv = .slice ia n ic) (hl : (n : Int) ≤ 9223372036854775807) => insok_b B g o sn cn n sa ca ia sc cc ic x.frame y w' (by rw [Below.cell l (p := ⟨B, 0, none⟩) hB]; exact hs) (by rw [Below.cell l (p := ⟨B, 1, none⟩) hB]; exact hc) (by rw [Below.cell l (p := ⟨g, o, none⟩) hg]; exact hf) (by rw [Below.cell l (p := ⟨g, o + 2, none⟩) hg, hi, e]) (Nat.lt_of_lt_of_le hB l.size) (Nat.lt_of_lt_of_le hg l.size) hn1 hn2 hl hfr
  have HM := fun w' (l : Later w w') (hfr : 0 ≤ x.frame ∧ x.frame ≤ 1000) {b : Bool} (hb : mpB x.frame 0 x.ins x.maps = b) => maps_b g o x.frame x.ins x.maps iv mv w' (by rw [Below.cell l (p := ⟨g, o, none⟩) hg]; exact hf) (by rw [Below.cell l (p := ⟨g, o + 2, none⟩) hg]; exact hi) (by rw [Below.cell l (p := ⟨g, o + 3, none⟩) hg]; exact hm) (Nat.lt_of_lt_of_le hg l.size) (RdL.later l h0) (RdL.later l h1) hfr hb
  obtain ⟨a, cap, rfl, hl⟩ := Is.slice h0
  unfold cdB at hb
  cases e0 : inB x.params 0 4 with
  | false =>
    rw [e0, Bool.false_and] at hb
    subst hb
    clear h0 h1 HI HM
    generalize x.params = zp at *
    go_enter Try.func80, Try.ntmps80
    go_wp2_with fail
    go_quiet ((go_at_call 22; exact Calls.quiet_of_same (isin_b (by assumption) _)))
    go_wp2_with fail
    go_ret
    exact ⟨rfl, later_drewN (Later.refl _) _⟩
  | true =>
  rw [e0, Bool.true_and] at hb
  have q0 := inB_iff.1 e0
  have r1 : -9223372036854775808 ≤ 3 + x.params := by omega
  have r2 : 3 + x.params ≤ 9223372036854775807 := by omega
  cases e1 : inB x.frame (3 + x.params) 1000 with
  | false =>
    rw [e1, Bool.false_and] at hb
    subst hb
    clear h0 h1 HI HM
    generalize x.params = zp at *
    generalize x.frame = zf at *
    go_enter Try.func80, Try.ntmps80
    go_wp2_with fail
    go_quiet ((go_at_call 22; exact Calls.quiet_of_same (isin_b (by assumption) _)))
    go_wp2_with fail
    go_ret
    exact ⟨rfl, later_drewN (Later.refl _) _⟩
  | true =>
  rw [e1, Bool.true_and] at hb
  have q1 := inB_iff.1 e1
  have hfr : 0 ≤ x.frame ∧ x.frame ≤ 1000 := by omega
  cases e2 : inB (x.ins.length : Int) 1 6000 with
  | false =>
    rw [e2, Bool.false_and] at hb
    subst hb
    clear h0 h1 HI HM
    generalize x.params = zp at *
    generalize x.frame = zf at *
    go_enter Try.func80, Try.ntmps80
    go_wp2_with fail
    go_quiet ((go_at_call 22; exact Calls.quiet_of_same (isin_b (by assumption) _)))
    go_wp2_with fail
    go_ret
    exact ⟨rfl, later_drewN (Later.refl _) _⟩
  | true =>
  rw [e2, Bool.true_and] at hb
  have HI' := fun w' (l : Later w w') (y : Is) => HI w' l y hfr x.ins.length a cap rfl hl
  have HM' : Hid (∀ w', Later w w' → ∀ b, mpB x.frame 0 x.ins x.maps = b → Calls Try.prog 93 #[.pointer (some ⟨g, o, none⟩)] w' fun e w2 => e = .returned (.bool b) ∧ Later w' w2) := fun w' l b hb => HM w' l hfr hb
  have HAll : Hid ((x.ins.all (insB sn cn x.frame (x.ins.length : Int)) && mpB x.frame 0 x.ins x.maps) = b) := hb
  clear HI HM h1 hb
  generalize x.params = zp at *
  go_enter Try.func80, Try.ntmps80
  go_wp2_with fail
  go_quiet ((go_at_call 22; exact Calls.quiet_of_same (isin_b (by assumption) _)))
  go_wp2_with fail
  go_loopw [40] (fun i wr => ∃ (k : Nat), i = .int .i64 (k : Int) ∧ k ≤ x.ins.length ∧ Later w wr ∧ ∀ y ∈ x.ins.take k, insB sn cn x.frame (x.ins.length : Int) y = true) (fun i _ => x.ins.length - (intOf i).toNat)
  case atStart => exact ⟨0, rfl, Nat.zero_le _, later_drewN (Later.refl _) _, fun y hy => by cases hy⟩
  case round =>
    obtain ⟨k, rfl, hk, lr, hS⟩ := hrel
    by_cases hlt : k < x.ins.length
    · obtain ⟨gi, off, rfl, hgi, c0, c1, c2, c3, c4⟩ := Is.elem (RdL.later lr h0) k hlt
      have i1 : (k : Int) < (x.ins.length : Int) := by omega
      have hx := fun w' (l : Later wr w') => HI' w' (lr.trans l) x.ins[k]
      have HT : Hid (∀ bb, insB sn cn x.frame (x.ins.length : Int) x.ins[k] = bb → (bb = true → ∀ y ∈ x.ins.take (k + 1), insB sn cn x.frame (x.ins.length : Int) y = true) ∧ (bb = false → b = false)) := fun bb hbb => by
        refine ⟨fun e y hy => ?_, fun e => ?_⟩
        · rw [List.take_succ_eq_append_getElem hlt] at hy
          rcases List.mem_append.1 hy with hy | hy
          · exact hS y hy
          · rw [List.mem_singleton.1 hy, hbb, e]
        · have : x.ins.all (insB sn cn x.frame (x.ins.length : Int)) = false := by
            rw [List.all_eq_false]
            exact ⟨_, List.getElem_mem hlt, by rw [hbb, e]; exact Bool.false_ne_true⟩
          rw [← HAll.out, this, Bool.false_and]
      generalize hii : insB sn cn x.frame (x.ins.length : Int) x.ins[k] = bb at *
      generalize x.ins[k].op = z0 at *
      generalize x.ins[k].a = z1 at *
      generalize x.ins[k].b = z2 at *
      generalize x.ins[k].c = z3 at *
      generalize x.ins[k].n = z4 at *
      have HT' := HT.out bb rfl
      have HT'' : Hid ((bb = true → ∀ y ∈ x.ins.take (k + 1), insB sn cn x.frame (x.ins.length : Int) y = true) ∧ (bb = false → b = false)) := HT'
      clear h0 hS HT HT' HI' hii
      go_wp2_with fail
      refine (hx _ (later1 _ _)).mono ?_
      rintro e w1 ⟨rfl, l1⟩
      cases bb with
      | false =>
        have hbf := HT''.out.2 rfl
        subst hbf
        clear hx HAll HM'
        go_wp2_with fail
        go_ret
        exact ⟨rfl, lr.trans ((later1 _ _).trans l1)⟩
      | true =>
        clear hx
        go_wp2_with fail
        go_roundw
        case rel => exact ⟨k + 1, by go_num, by omega, lr.trans ((later1 _ _).trans l1), HT''.out.1 (by trivial)⟩
        case measure => simp [intOf]; omega
    · have i1 : ¬ (k : Int) < (x.ins.length : Int) := by omega
      have i2 : decide ((k : Int) < (x.ins.length : Int)) = false := decide_eq_false i1
      have hall : x.ins.all (insB sn cn x.frame (x.ins.length : Int)) = true := by
        rw [List.all_eq_true]
        intro y hy
        refine hS y ?_
        rw [List.take_of_length_le (by omega)]
        exact hy
      have hmb : mpB x.frame 0 x.ins x.maps = b := by rw [← HAll.out, hall, Bool.true_and]
      have hx := HM'.out wr lr b hmb
      clear h0 hS HI' HAll HM' hall hmb
      go_wp2_with fail
      refine hx.mono ?_
      rintro e w1 ⟨rfl, l1⟩
      clear hx
      go_wp2_with fail
      go_ret
      exact ⟨rfl, lr.trans l1⟩
end Go.Proofs.Ytlfkjjnhlkaipaa
