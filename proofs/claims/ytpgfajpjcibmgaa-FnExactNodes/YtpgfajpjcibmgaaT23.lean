/- Parameters and structs, by the model. -/
import Derived.Test.YtpgfajpjcibmgaaT15
import Derived.Test.YtpgfajpjcibmgaaT18
namespace Go.Proofs.Ytpgfajpjcibmgaa
open Go.RowKit

set_option maxHeartbeats 2000000 in
theorem sparams_any (v : Value) (l : List Pa) (most s : Int) (w : World) (h : RdL w 3 v (Pa.dats l)) : Calls Try.prog 21 #[v, .int .i64 most, .int .i64 s] w fun e w' => e = .returned (.bool (paramB most s l)) ∧ Later w w' := by
  obtain ⟨a, cap, rfl, hl⟩ := Pa.slice h
  unfold paramB
  by_cases hm : (l.length : Int) ≤ most
  · rw [decide_eq_true hm, Bool.true_and]
    have hm' : ¬ most < (l.length : Int) := by omega
    go_enter Try.func21, Try.ntmps21
    go_wp2_with fail
    go_loopw [7] (fun i wr => ∃ (j : Nat), i = .int .i64 (j : Int) ∧ j ≤ l.length ∧ Later w wr ∧ Hid (∀ i (hi : i < l.length), i < j → paOk s l[i] = true)) (fun i _ => l.length - (intOf i).toNat)
    case atStart => exact ⟨0, rfl, Nat.zero_le _, Later.refl _, fun i _ hj => absurd hj (Nat.not_lt_zero _)⟩
    case round =>
      obtain ⟨j, rfl, hj, lr, HA⟩ := hrel
      by_cases hlt : j < l.length
      · obtain ⟨g, off, v0, rfl, hgs, c0, c1, c2, r0⟩ := Pa.elem (RdL.later lr h) j hlt
        have i1 : (j : Int) < (l.length : Int) := by omega
        have hN := name_any v0 l[j].name wr r0.rd
        have hT := fun w' => ty_any l[j].tk l[j].tn s false w'
        obtain ⟨y0, q0, rfl, _⟩ := r0.slice
        have HB : Hid (paOk s l[j] = false → l.all (paOk s) = false) := fun hf => all_no hlt hf
        have HG : Hid (paOk s l[j] = true → ∀ i (hi : i < l.length), i < j + 1 → paOk s l[i] = true) := fun hf i hi hij => by
          rcases Nat.lt_or_ge i j with a | a
          · exact HA.out i hi a
          · have : i = j := by omega
            subst this
            exact hf
        have HQ : Hid (paOk s l[j] = (nameL l[j].name && tyB l[j].tk l[j].tn s false)) := rfl
        clear r0 HA h
        generalize paOk s l[j] = ok at *
        generalize nameL l[j].name = nb at *
        generalize tyB l[j].tk l[j].tn s false = tb at *
        generalize l[j].tk = z_tk at *
        generalize l[j].tn = z_tn at *
        cases nb
        · have HB' : Hid (l.all (paOk s) = false) := HB.out HQ.out
          clear HG HB hT
          go_wp2_with (go_at_call 22; refine hN.mono ?_; rintro e w1 ⟨rfl, l1⟩)
          go_ret
          exact ⟨ret_bool HB'.out.symm, lr.trans l1⟩
        · cases tb
          · have HB' : Hid (l.all (paOk s) = false) := HB.out HQ.out
            clear HG HB
            go_wp2_with (first | (go_at_call 22; refine hN.mono ?_; rintro e w1 ⟨rfl, l1⟩; obtain ⟨hc1, _⟩ := bcell l1) | (go_at_call 23; refine (hT _).mono ?_; rintro e w2 ⟨rfl, l2⟩))
            go_ret
            exact ⟨ret_bool HB'.out.symm, (lr.trans l1).trans l2⟩
          · have HG' : Hid (∀ i (hi : i < l.length), i < j + 1 → paOk s l[i] = true) := HG.out HQ.out
            clear HG HB
            go_wp2_with (first | (go_at_call 22; refine hN.mono ?_; rintro e w1 ⟨rfl, l1⟩; obtain ⟨hc1, _⟩ := bcell l1) | (go_at_call 23; refine (hT _).mono ?_; rintro e w2 ⟨rfl, l2⟩))
            go_roundw
            case rel => exact ⟨j + 1, by go_num, by omega, (lr.trans l1).trans l2, HG'⟩
            case measure => simp [intOf]; omega
      · have i1 : ¬ (j : Int) < (l.length : Int) := by omega
        have i2 : decide ((j : Int) < (l.length : Int)) = false := decide_eq_false i1
        have HY : Hid (l.all (paOk s) = true) := all_yes fun i hi => HA.out i hi (by omega)
        clear HA h
        go_wp2_with fail
        go_ret
        exact ⟨ret_bool HY.out.symm, lr⟩
  · rw [decide_eq_false hm, Bool.false_and]
    have hm' : most < (l.length : Int) := by omega
    go_enter Try.func21, Try.ntmps21
    go_wp2_with fail
    go_ret
    exact ⟨rfl, Later.refl _⟩

/-- The place of the first struct of a name. -/
def firstB (l : List Sc) (nm : List Int) (n : Int) : Prop := (∃ j : Nat, n = (j : Int) ∧ (∃ h : j < l.length, l[j].name = nm) ∧ ∀ i (hi : i < l.length), i < j → l[i].name ≠ nm) ∨ (n = -1 ∧ ∀ i (hi : i < l.length), l[i].name ≠ nm)
theorem firstB_eq {l : List Sc} {i : Nat} (hi : i < l.length) {n : Int} (h : firstB l l[i].name n) : (n != (i : Int)) = anyB (l.take i) l[i].name := by
  rcases h with ⟨j, rfl, ⟨hj, ej⟩, hf⟩ | ⟨rfl, hf⟩
  · have hji : j ≤ i := by
      rcases Nat.lt_or_ge i j with a | a
      · exact absurd rfl (hf i hi a)
      · exact a
    rcases Nat.lt_or_ge j i with a | a
    · have e1 : ((j : Int) != (i : Int)) = true := by rw [bne, neb (by omega)]; rfl
      rw [e1]
      symm
      refine any_yes (j := j) (by rw [List.length_take]; omega) ?_
      rw [List.getElem_take]
      exact ej
    · have : j = i := by omega
      subst this
      have e1 : ((j : Int) != (j : Int)) = false := by simp
      rw [e1]
      symm
      refine any_no (fun k hk => ?_)
      rw [List.length_take] at hk
      rw [List.getElem_take]
      exact hf k (by omega) (by omega)
  · exact absurd rfl (hf i hi)
set_option maxHeartbeats 2000000 in
theorem sstruct_any (v u : Value) (l : List Sc) (nm : List Int) : ∃ n, firstB l nm n ∧ ∀ w, RdL w 2 v (Sc.dats l) → RdB w u nm → Calls Try.prog 20 #[v, u] w fun e w' => e = .returned (.int .i64 n) ∧ ∃ m, w' = w.drewN m := by
  have hex : ∃ n, firstB l nm n := by
    by_cases h : ∃ j, ∃ hj : j < l.length, l[j].name = nm
    · obtain ⟨j, hj, e⟩ := h
      have : ∀ m, ∀ j, j ≤ m → (∃ hj : j < l.length, l[j].name = nm) → ∃ k : Nat, (∃ hk : k < l.length, l[k].name = nm) ∧ ∀ i (hi : i < l.length), i < k → l[i].name ≠ nm := by
        intro m
        induction m with
        | zero => intro j hj h; obtain rfl : j = 0 := by omega
                  exact ⟨0, h, fun i _ hi => absurd hi (Nat.not_lt_zero _)⟩
        | succ m ih =>
          intro j hj h
          by_cases hh : ∃ i, i < j ∧ ∃ hi : i < l.length, l[i].name = nm
          · obtain ⟨i, hij, hi⟩ := hh
            exact ih i (by omega) hi
          · exact ⟨j, h, fun i hi hij e => hh ⟨i, hij, hi, e⟩⟩
      obtain ⟨k, hk, hf⟩ := this j j (Nat.le_refl _) ⟨hj, e⟩
      exact ⟨(k : Int), .inl ⟨k, rfl, hk, hf⟩⟩
    · exact ⟨-1, .inr ⟨rfl, fun i hi e => h ⟨i, hi, e⟩⟩⟩
  obtain ⟨n, hn⟩ := hex
  refine ⟨n, hn, fun w h k => ?_⟩
  have HU : Hid (∀ m, firstB l nm m → m = n) := fun m hm => by
    rcases hm with ⟨j, rfl, ⟨hj, ej⟩, hf⟩ | ⟨rfl, hf⟩
    · rcases hn with ⟨j', rfl, ⟨hj', ej'⟩, hf'⟩ | ⟨rfl, hf'⟩
      · have h1 : ¬ j < j' := fun a => hf' j hj a ej
        have h2 : ¬ j' < j := fun a => hf j' hj' a ej'
        omega
      · exact absurd ej (hf' j hj)
    · rcases hn with ⟨j', rfl, ⟨hj', ej'⟩, hf'⟩ | ⟨rfl, hf'⟩
      · exact absurd ej' (hf j' hj')
      · rfl
  clear hn
  obtain ⟨a, cap, rfl, hl⟩ := Sc.slice h
  have hcu := fun m => conv_str k (w.drewN m) (later_drewN (Later.refl _) m)
  have hku := k.isB
  obtain ⟨b, cap', rfl, _⟩ := k.slice
  clear k
  go_enter Try.func20, Try.ntmps20
  go_wp2_with fail
  go_loopw [5] (fun i wr => ∃ (j m : Nat), i = .int .i64 (j : Int) ∧ j ≤ l.length ∧ wr = w.drewN m ∧ Hid (∀ i (hi : i < l.length), i < j → l[i].name ≠ nm)) (fun i _ => l.length - (intOf i).toNat)
  case atStart => exact ⟨0, 0, rfl, Nat.zero_le _, rfl, fun i _ hj => absurd hj (Nat.not_lt_zero _)⟩
  case round =>
    obtain ⟨j, m, rfl, hj, rfl, HA⟩ := hrel
    by_cases hlt : j < l.length
    · obtain ⟨g, off, v0, v1, rfl, hgs, c0, c1, r0, r1⟩ := Sc.elem h j hlt
      have i1 : (j : Int) < (l.length : Int) := by omega
      have hcv := fun m => conv_str r0.rd (w.drewN m) (later_drewN (Later.refl _) m)
      have hs := str_inj r0.rd.isB hku
      obtain ⟨y0, q0, rfl, _⟩ := r0.slice
      by_cases q : l[j].name = nm
      · have HY : Hid ((j : Int) = n) := HU.out _ (.inl ⟨j, rfl, ⟨hlt, q⟩, HA.out⟩)
        rw [decide_eq_true q] at hs
        clear r0 r1 HA h q HU c1
        go_wp2_with fail
        go_quiet (fail)
        go_wp2_with fail
        go_ret
        exact ⟨ret_int HY.out, _, World.drewN_drewN _ _ _⟩
      · have HN : Hid (∀ i (hi : i < l.length), i < j + 1 → l[i].name ≠ nm) := fun i hi hij => by
          rcases Nat.lt_or_ge i j with a | a
          · exact HA.out i hi a
          · have : i = j := by omega
            subst this
            exact q
        rw [decide_eq_false q] at hs
        clear r0 r1 HA h q HU c1
        go_wp2_with fail
        go_quiet (fail)
        go_wp2_with fail
        go_roundw
        case rel => exact ⟨j + 1, _, by go_num, by omega, rfl, HN⟩
        case measure => simp [intOf]; omega
    · have i1 : ¬ (j : Int) < (l.length : Int) := by omega
      have i2 : decide ((j : Int) < (l.length : Int)) = false := decide_eq_false i1
      have HY : Hid ((-1 : Int) = n) := HU.out _ (.inr ⟨rfl, fun i hi => HA.out i hi (by omega)⟩)
      clear HA h HU
      go_wp2_with fail
      go_ret
      exact ⟨ret_int HY.out, _, rfl⟩

end Go.Proofs.Ytpgfajpjcibmgaa
