/- Images by the program: maps of safe places. -/
import Derived.Test.YtlfkjjnhlkaipaaG2
namespace Go.Proofs.Ytlfkjjnhlkaipaa
open Go.RowKit

/-- Is there just a map for each safe place, in order? -/
def mpB (fr : Int) : Nat → List Is → List Ma → Bool
  | _, [], ms => (ms.length : Int) == 0
  | pc, i :: r, ms => if hmB i.op then (match ms with | [] => false | m :: t => (m.pc == (pc : Int)) && (slB fr 3 m.slots && mpB fr (pc + 1) r t)) else mpB fr (pc + 1) r ms
theorem mpB_skip {fr : Int} {pc : Nat} {i : Is} {r : List Is} {ms : List Ma} (h : hmB i.op = false) : mpB fr pc (i :: r) ms = mpB fr (pc + 1) r ms := by cases ms <;> simp [mpB, h]
theorem mpB_none {fr : Int} {pc : Nat} {i : Is} {r : List Is} (h : hmB i.op = true) : mpB fr pc (i :: r) [] = false := by simp [mpB, h]
theorem mpB_some {fr : Int} {pc : Nat} {i : Is} {r : List Is} {m : Ma} {t : List Ma} (h : hmB i.op = true) : mpB fr pc (i :: r) (m :: t) = ((m.pc == (pc : Int)) && (slB fr 3 m.slots && mpB fr (pc + 1) r t)) := by simp [mpB, h]
theorem Ma.tail {w : World} {g off n cap : Nat} {x : Ma} {l : List Ma} (h : RdL w 2 (.slice (some ⟨g, off, none⟩) n cap) (Ma.dats (x :: l))) : n = l.length + 1 ∧ n ≤ cap ∧ RdL w 2 (.slice (if cap = 1 then some ⟨g, off, none⟩ else some ⟨g, off + 2, none⟩) l.length (cap - 1)) (Ma.dats l) := by
  obtain ⟨a, c, e, hl, hd⟩ := h
  rw [Ma.dats_len, List.length_cons] at e hl
  cases e
  refine ⟨rfl, hl.1, _, cap - 1, by rw [Ma.dats_len], by rw [Ma.dats_len]; omega, fun j hj => ?_⟩
  rw [Ma.dats_len] at hj
  rw [if_neg (by omega)]
  obtain ⟨g', off', cs, e, hg, hk, hc, hr⟩ := hd (j + 1) (by rw [Ma.dats_len, List.length_cons]; omega)
  cases e
  refine ⟨g, off + 2, cs, rfl, hg, hk, fun m u hm => ?_, ?_⟩
  · rw [show off + 2 + j * 2 + m = off + (j + 1) * 2 + m by omega]
    exact hc m u hm
  · exact hr
set_option maxRecDepth 20000 in
set_option maxHeartbeats 400000 in
theorem maps_b (g o : Nat) (fr : Int) (is : List Is) (ms : List Ma) (iv mv : Value) (w : World) (hf : w.cell? ⟨g, o, none⟩ = some (.int .i64 fr)) (hi : w.cell? ⟨g, o + 2, none⟩ = some iv) (hm : w.cell? ⟨g, o + 3, none⟩ = some mv) (hg : g < w.heap.size) (h0 : RdL w 5 iv (Is.dats is)) (h1 : RdL w 2 mv (Ma.dats ms)) (hfr : 0 ≤ fr ∧ fr ≤ 1000) {b : Bool} (hb : mpB fr 0 is ms = b) :
    Calls Try.prog 93 #[.pointer (some ⟨g, o, none⟩)] w fun e w' => e = .returned (.bool b) ∧ Later w w' := by
  obtain ⟨a, cap, rfl, hl⟩ := Is.slice h0
  obtain ⟨a', cap', rfl, _⟩ := Ma.slice h1
  have HF : Hid (∀ w', Later w w' → w'.cell? ⟨g, o, none⟩ = some (.int .i64 fr) ∧ g < w'.heap.size) := fun w' l => ⟨by rw [Below.cell l (p := ⟨g, o, none⟩) hg]; exact hf, Nat.lt_of_lt_of_le hg l.size⟩
  go_enter Try.func93, Try.ntmps93
  go_wp2_with fail
  go_loopw [3, 15] (fun rv i wr => ∃ (k : Nat) (rs : List Ma), i = .int .i64 (k : Int) ∧ k ≤ is.length ∧ Later w wr ∧ RdL w 2 rv (Ma.dats rs) ∧ mpB fr k (is.drop k) rs = b) (fun _ i _ => is.length - (intOf i).toNat)
  case atStart => exact ⟨0, ms, rfl, Nat.zero_le _, Later.refl _, h1, hb⟩
  case round =>
    obtain ⟨k, rs, rfl, hk, lr, hR, hS⟩ := hrel
    clear h1 hb
    obtain ⟨hf', hg'⟩ := HF.out wr lr
    by_cases hlt : k < is.length
    · obtain ⟨gi, off, rfl, hgi, c0, c1, c2, c3, c4⟩ := Is.elem (RdL.later lr h0) k hlt
      have i1 : (k : Int) < (is.length : Int) := by omega
      rw [List.drop_eq_getElem_cons hlt] at hS
      cases e0 : hmB is[k].op with
      | false =>
        rw [mpB_skip e0] at hS
        have HS : Hid (mpB fr (k + 1) (is.drop (k + 1)) rs = b) := hS
        generalize is[k].op = z0 at *
        generalize is[k].a = z1 at *
        generalize is[k].b = z2 at *
        generalize is[k].c = z3 at *
        generalize is[k].n = z4 at *
        obtain ⟨ra, rc, rfl, _⟩ := Ma.slice hR
        have HR : Hid (RdL w 2 (.slice ra rs.length rc) (Ma.dats rs)) := hR
        clear h0 hS hR
        go_wp2_with (go_at_call 99; refine (hasmap_b (by assumption) _).mono ?_; rintro e w1 ⟨rfl, hww⟩; obtain rfl := hww.symm)
        go_roundw
        case rel => exact ⟨k + 1, rs, by go_num, by omega, lr.trans (later1 _ _), HR.out, HS.out⟩
        case measure => simp [intOf]; omega
      | true =>
        cases rs with
        | nil =>
          rw [mpB_none e0] at hS
          subst hS
          generalize is[k].op = z0 at *
          generalize is[k].a = z1 at *
          generalize is[k].b = z2 at *
          generalize is[k].c = z3 at *
          generalize is[k].n = z4 at *
          obtain ⟨ra, rc, rfl, _⟩ := Ma.slice hR
          clear h0 hR
          go_wp2_with (go_at_call 99; refine (hasmap_b (by assumption) _).mono ?_; rintro e w1 ⟨rfl, hww⟩; obtain rfl := hww.symm)
          go_quiet (fail)
          go_wp2_with fail
          go_ret
          exact ⟨rfl, later_drewN (lr.trans (later1 _ _)) _⟩
        | cons m t =>
          rw [mpB_some e0] at hS
          generalize is[k].op = z0 at *
          generalize is[k].a = z1 at *
          generalize is[k].b = z2 at *
          generalize is[k].c = z3 at *
          generalize is[k].n = z4 at *
          obtain ⟨ra, rc, rfl, hrl⟩ := Ma.slice hR
          obtain ⟨gm, om, sv, rfl, hgm, d0, d1, rS⟩ := Ma.elem (RdL.later lr hR) 0 (Nat.zero_lt_succ _)
          simp only [Nat.zero_mul, Nat.add_zero] at d0 d1
          obtain ⟨hn, hcap, hT⟩ := Ma.tail hR
          have HT : Hid (RdL w 2 (.slice (if rc = 1 then some ⟨gm, om, none⟩ else some ⟨gm, om + 2, none⟩) t.length (rc - 1)) (Ma.dats t)) := hT
          change wr.cell? ⟨gm, om, none⟩ = some (.int .i64 m.pc) at d0
          have hsl := fun w' (l : Later wr w') (bb : Bool) (hbb : slB fr 3 m.slots = bb) => slots_b sv m.slots fr w' (RdL.later l rS) hfr hbb
          obtain ⟨sa, sc, rfl, _⟩ := In.slice rS
          generalize m.pc = zp at *
          have hn' : t.length = (m :: t).length - 1 := rfl
          have hpos : 0 < (m :: t).length := Nat.zero_lt_succ _
          rw [hn'] at HT
          generalize (m :: t).length = nn at *
          have hz : ((nn : Int) == 0) = false := by simp; omega
          have i5 : (1 : Int) ≤ (nn : Int) := by omega
          have i6 : (0 : Int) < (nn : Int) := by omega
          have i7 : (1 : Int) ≤ (rc : Int) := by omega
          have i8 : (nn : Int) ≤ (rc : Int) := by omega
          clear h0 hR hT hn hn'
          cases e1 : (zp == (k : Int)) with
          | false =>
            rw [e1, Bool.false_and] at hS
            subst hS
            have e1' : (zp != (k : Int)) = true := by simpa using e1
            go_wp2_with (go_at_call 99; refine (hasmap_b (by assumption) _).mono ?_; rintro e w1 ⟨rfl, hww⟩; obtain rfl := hww.symm)
            go_quiet (fail)
            go_wp2_with fail
            go_ret
            exact ⟨rfl, later_drewN (lr.trans (later1 _ _)) _⟩
          | true =>
            have e1' : (zp != (k : Int)) = false := by simpa using e1
            rw [e1, Bool.true_and] at hS
            cases e2 : slB fr 3 m.slots with
            | false =>
              rw [e2, Bool.false_and] at hS
              subst hS
              go_wp2_with (go_at_call 99; refine (hasmap_b (by assumption) _).mono ?_; rintro e w1 ⟨rfl, hww⟩; obtain rfl := hww.symm)
              go_quiet ((go_at_call 100; exact Calls.quiet_of_same (hsl _ (later_drewN (later1 _ _) _) _ e2)))
              go_wp2_with fail
              go_ret
              exact ⟨rfl, later_drewN (lr.trans (later1 _ _)) _⟩
            | true =>
              rw [e2, Bool.true_and] at hS
              have HS : Hid (mpB fr (k + 1) (is.drop (k + 1)) t = b) := hS
              clear hS
              go_wp2_with (go_at_call 99; refine (hasmap_b (by assumption) _).mono ?_; rintro e w1 ⟨rfl, hww⟩; obtain rfl := hww.symm)
              go_quiet ((go_at_call 100; exact Calls.quiet_of_same (hsl _ (later_drewN (later1 _ _) _) _ e2)))
              go_wp2_with fail
              go_roundw
              case rel => exact ⟨k + 1, t, by go_num, by omega, later_drewN (lr.trans (later1 _ _)) _, HT.out, HS.out⟩
              case measure => simp [intOf]; omega
    · have i1 : ¬ (k : Int) < (is.length : Int) := by omega
      have i2 : decide ((k : Int) < (is.length : Int)) = false := decide_eq_false i1
      rw [List.drop_eq_nil_of_le (by omega), mpB] at hS
      obtain ⟨ra, rc, rfl, _⟩ := Ma.slice hR
      subst hS
      clear h0 hR
      go_wp2_with fail
      go_ret
      exact ⟨by simp, lr⟩
end Go.Proofs.Ytlfkjjnhlkaipaa
