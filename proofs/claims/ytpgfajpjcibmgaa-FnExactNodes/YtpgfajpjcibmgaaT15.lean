/- Structs, functions and sources surveyed, by the program. -/
import Derived.Test.YtpgfajpjcibmgaaT14
import Derived.Deep.RegionHeld3
namespace Go.Proofs.Ytpgfajpjcibmgaa
open Go.RowKit

def oneB (l : List Sc) (i : Nat) (x : Sc) : Bool := wordL x.name true && !(anyB (l.take i) x.name) && paramB 5 ((i : Int) + 1) x.fields
/-- May they be the structs of a source? -/
def structB (l : List Sc) : Bool := decide (l.length ≤ 6) && (List.range l.length).all fun i => match l[i]? with | some x => oneB l i x | none => true
theorem structB_iff (l : List Sc) : structB l = true ↔ l.length ≤ 6 ∧ ∀ i (h : i < l.length), oneB l i l[i] = true := by
  unfold structB
  rw [Bool.and_eq_true, decide_eq_true_eq, List.all_eq_true]
  refine and_congr_right fun _ => ⟨fun h i hi => ?_, fun h i hi => ?_⟩
  · have := h i (List.mem_range.2 hi)
    rwa [List.getElem?_eq_getElem hi] at this
  · have hi' := List.mem_range.1 hi
    rw [List.getElem?_eq_getElem hi']
    exact h i hi'
theorem structB_no {l : List Sc} {i : Nat} (h : i < l.length) (hf : oneB l i l[i] = false) : structB l = false := by
  rw [← Bool.not_eq_true, structB_iff]
  rintro ⟨_, ha⟩
  rw [ha i h] at hf
  cases hf
theorem dats_take (l : List Sc) (i : Nat) : Sc.dats (l.take i) = (Sc.dats l).take i := by
  induction l generalizing i with
  | nil => rw [List.take_nil, Sc.dats, List.take_nil]
  | cons x r ih =>
    cases i with
    | zero => rw [List.take_zero, List.take_zero, Sc.dats]
    | succ i => rw [List.take_succ_cons, Sc.dats, Sc.dats, List.take_succ_cons, ih]
theorem RdL.take {w : World} {k : Nat} {a : Option Addr} {n cap : Nat} {l : List Sc} (h : RdL w k (.slice a n cap) (Sc.dats l)) {i : Nat} (hi : i ≤ l.length) : RdL w k (.slice a i cap) (Sc.dats (l.take i)) := by
  obtain ⟨_, _, e, hc, hh⟩ := h
  cases e
  have hl := Sc.dats_len l
  have ht : (Sc.dats (l.take i)).length = i := by rw [Sc.dats_len, List.length_take]; omega
  refine ⟨a, cap, by rw [ht], by rw [ht]; omega, fun j hj => ?_⟩
  rw [ht] at hj
  obtain ⟨g, off, cs, e, hg, hk, hcc, hd⟩ := hh j (by omega)
  refine ⟨g, off, cs, e, hg, hk, hcc, ?_⟩
  have e2 : (Sc.dats (l.take i))[j]'(by omega) = (Sc.dats l)[j]'(by omega) := by
    have h1 : (Sc.dats (l.take i))[j]? = (Sc.dats l)[j]? := by rw [dats_take, List.getElem?_take_of_lt hj]
    rw [List.getElem?_eq_getElem (by omega), List.getElem?_eq_getElem (by omega)] at h1
    exact Option.some.inj h1
  rw [e2]
  exact hd

set_option maxHeartbeats 4000000 in
theorem istructs_any (v : Value) (l : List Sc) (w : World) (h : RdL w 2 v (Sc.dats l)) : Calls Try.prog 27 #[v] w fun e w' => e = .returned (.bool (structB l)) ∧ Later w w' := by
  obtain ⟨a, cap, rfl, hcap, hmax⟩ := h.cap
  rw [Sc.dats_len] at h hcap ⊢
  unfold maxLen at hmax
  by_cases hm : l.length ≤ 6
  · have hm' : ¬ 6 < (l.length : Int) := by omega
    go_enter Try.func27, Try.ntmps27
    go_wp2_with fail
    go_loopw [10] (fun i wr => ∃ (j : Nat), i = .int .i64 (j : Int) ∧ j ≤ l.length ∧ Later w wr ∧ Hid (∀ i (hi : i < l.length), i < j → oneB l i l[i] = true)) (fun i _ => l.length - (intOf i).toNat)
    case atStart => exact ⟨0, rfl, Nat.zero_le _, Later.refl _, fun i _ hj => absurd hj (Nat.not_lt_zero _)⟩
    case round =>
      obtain ⟨j, rfl, hj, lr, HA⟩ := hrel
      by_cases hlt : j < l.length
      · obtain ⟨g, off, v0, v1, rfl, hgs, c0, c1, r0, r1⟩ := Sc.elem (RdL.later lr h) j hlt
        have i1 : (j : Int) < (l.length : Int) := by omega
        have i3 : (j : Int) ≤ (cap : Int) := by omega
        have hW := fun w' (ll : Later wr w') => igreat_any v0 l[j].name w' (r0.later ll)
        have hN := fun w' (ll : Later wr w') => inamed_any _ v0 (l.take j) l[j].name w' (RdL.take (i := j) (RdL.later (lr.trans ll) h) (by omega)) (r0.later ll).rd
        have hP := fun w' (ll : Later wr w') => iparams_any v1 l[j].fields 5 ((j : Int) + 1) w' (RdL.later ll r1)
        obtain ⟨y0, q0, rfl, _⟩ := r0.slice
        obtain ⟨y1, q1, rfl, _⟩ := Pa.slice r1
        have HB : Hid (oneB l j l[j] = false → structB l = false) := fun hf => structB_no hlt hf
        have HG : Hid (oneB l j l[j] = true → ∀ i (hi : i < l.length), i < j + 1 → oneB l i l[i] = true) := fun hf i hi hij => by
          rcases Nat.lt_or_ge i j with a | a
          · exact HA.out i hi a
          · have : i = j := by omega
            subst this
            exact hf
        have HQ : Hid (oneB l j l[j] = (wordL l[j].name true && !(anyB (l.take j) l[j].name) && paramB 5 ((j : Int) + 1) l[j].fields)) := rfl
        have HSS : Hid (∀ w', Later (wr.alloc (.cells #[.slice y0 l[j].name.length q0, .slice y1 l[j].fields.length q1] 57)) w' → (Later (wr.alloc (.cells #[.slice y0 l[j].name.length q0, .slice y1 l[j].fields.length q1] 57)) w' ∧ w'.cell? ⟨wr.heap.size, 0, none⟩ = some (.slice y0 l[j].name.length q0) ∧ w'.cell? ⟨wr.heap.size, 1, none⟩ = some (.slice y1 l[j].fields.length q1))) := fun w' ll => ⟨ll, by rw [Below.cell ll (p := ⟨wr.heap.size, 0, none⟩) (by simp)]; simp, by rw [Below.cell ll (p := ⟨wr.heap.size, 1, none⟩) (by simp)]; simp⟩
        clear r0 r1 HA h
        generalize oneB l j l[j] = ok at *
        generalize wordL l[j].name true = wb at *
        generalize anyB (l.take j) l[j].name = ab at *
        generalize paramB 5 ((j : Int) + 1) l[j].fields = pb at *
        cases wb
        · have HB' : Hid (structB l = false) := HB.out HQ.out
          clear HG HB hN hP
          go_wp2_with fail
          go_quiet ((go_at_call 40; exact Calls.quiet_of_same (hW _ (later_drewN (later1 _ _) _))))
          all_goals
            go_wp2_with fail
            go_ret
            exact ⟨ret_bool HB'.out.symm, later_drewN (lr.alloc _) _⟩
        · cases ab
          · cases pb
            · have HB' : Hid (structB l = false) := HB.out HQ.out
              clear HG HB
              go_wp2_with fail
              go_region_held3 (fun w' => Later (wr.alloc (.cells #[.slice y0 l[j].name.length q0, .slice y1 l[j].fields.length q1] 57)) w' ∧ w'.cell? ⟨wr.heap.size, 0, none⟩ = some (.slice y0 l[j].name.length q0) ∧ w'.cell? ⟨wr.heap.size, 1, none⟩ = some (.slice y1 l[j].fields.length q1)) (first | exact HSS.out _ (Later.drew _) | exact HSS.out _ ((Later.drew _).trans l2)) (first | (go_at_call 40; refine (hW _ ((later1 _ _).trans (Later.drew _))).mono ?_; rintro e w1 ⟨rfl, hww⟩; obtain rfl := hww.symm) | (go_at_call 41; refine (hN _ ((later1 _ _).trans (Later.drew _))).mono ?_; rintro e w2 ⟨⟨n, rfl, hn⟩, l2⟩; obtain ⟨hc2, _⟩ := bcell l2; have hz2 : wr.heap.size < w2.heap.size := (by have := l2.size; simp at this; omega)))
              all_goals
                have hn' : ¬ 0 ≤ n := of_decide_eq_false hn
                clear hn
                go_wp2_with (go_at_call 42; refine (hP _ (((later1 _ _).trans (Later.drew _)).trans l2)).mono ?_; rintro e w3 ⟨rfl, l3⟩)
                go_ret
                exact ⟨ret_bool HB'.out.symm, (((lr.alloc _).trans (Later.drew _)).trans l2).trans l3⟩
            · have HG' : Hid (∀ i (hi : i < l.length), i < j + 1 → oneB l i l[i] = true) := HG.out HQ.out
              clear HG HB
              go_wp2_with fail
              go_region_held3 (fun w' => Later (wr.alloc (.cells #[.slice y0 l[j].name.length q0, .slice y1 l[j].fields.length q1] 57)) w' ∧ w'.cell? ⟨wr.heap.size, 0, none⟩ = some (.slice y0 l[j].name.length q0) ∧ w'.cell? ⟨wr.heap.size, 1, none⟩ = some (.slice y1 l[j].fields.length q1)) (first | exact HSS.out _ (Later.drew _) | exact HSS.out _ ((Later.drew _).trans l2)) (first | (go_at_call 40; refine (hW _ ((later1 _ _).trans (Later.drew _))).mono ?_; rintro e w1 ⟨rfl, hww⟩; obtain rfl := hww.symm) | (go_at_call 41; refine (hN _ ((later1 _ _).trans (Later.drew _))).mono ?_; rintro e w2 ⟨⟨n, rfl, hn⟩, l2⟩; obtain ⟨hc2, _⟩ := bcell l2; have hz2 : wr.heap.size < w2.heap.size := (by have := l2.size; simp at this; omega)))
              all_goals
                have hn' : ¬ 0 ≤ n := of_decide_eq_false hn
                clear hn
                go_wp2_with (go_at_call 42; refine (hP _ (((later1 _ _).trans (Later.drew _)).trans l2)).mono ?_; rintro e w3 ⟨rfl, l3⟩)
                go_roundw
                case rel => exact ⟨j + 1, by go_num, by omega, (((lr.alloc _).trans (Later.drew _)).trans l2).trans l3, HG'⟩
                case measure => simp [intOf]; omega
          · have HB' : Hid (structB l = false) := HB.out HQ.out
            clear HG HB hP
            go_wp2_with fail
            go_region_held3 (fun w' => Later (wr.alloc (.cells #[.slice y0 l[j].name.length q0, .slice y1 l[j].fields.length q1] 57)) w' ∧ w'.cell? ⟨wr.heap.size, 0, none⟩ = some (.slice y0 l[j].name.length q0) ∧ w'.cell? ⟨wr.heap.size, 1, none⟩ = some (.slice y1 l[j].fields.length q1)) (first | exact HSS.out _ (Later.drew _) | exact HSS.out _ ((Later.drew _).trans l2)) (first | (go_at_call 40; refine (hW _ ((later1 _ _).trans (Later.drew _))).mono ?_; rintro e w1 ⟨rfl, hww⟩; obtain rfl := hww.symm) | (go_at_call 41; refine (hN _ ((later1 _ _).trans (Later.drew _))).mono ?_; rintro e w2 ⟨⟨n, rfl, hn⟩, l2⟩; obtain ⟨hc2, _⟩ := bcell l2; have hz2 : wr.heap.size < w2.heap.size := (by have := l2.size; simp at this; omega)))
            all_goals
              have hn' : 0 ≤ n := of_decide_eq_true hn
              clear hn
              go_wp2_with fail
              go_ret
              exact ⟨ret_bool HB'.out.symm, ((lr.alloc _).trans (Later.drew _)).trans l2⟩
      · have i1 : ¬ (j : Int) < (l.length : Int) := by omega
        have i2 : decide ((j : Int) < (l.length : Int)) = false := decide_eq_false i1
        have HY : Hid (structB l = true) := (structB_iff l).2 ⟨hm, fun i hi => HA.out i hi (by omega)⟩
        clear HA h
        go_wp2_with fail
        go_ret
        exact ⟨ret_bool HY.out.symm, lr⟩
  · have hm' : 6 < (l.length : Int) := by omega
    have e : structB l = false := by unfold structB; rw [decide_eq_false hm, Bool.false_and]
    rw [e]
    go_enter Try.func27, Try.ntmps27
    go_wp2_with fail
    go_ret
    exact ⟨rfl, Later.refl _⟩

end Go.Proofs.Ytpgfajpjcibmgaa
