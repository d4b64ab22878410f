/- Parameters, structs, functions and sources surveyed, by the program. -/
import Derived.Test.YtpgfajpjcibmgaaT13
namespace Go.Proofs.Ytpgfajpjcibmgaa
open Go.RowKit

set_option maxHeartbeats 4000000 in
theorem istmts_all (N : Nat) : ∀ (v : Value) (l : List St) (K : Nat) (s p d : Int) (w0 w : World), St.szs l ≤ N → (St.goods l) → RdL w0 8 v (St.dats l) → Later w0 w → w0.heap.size ≤ K → Sv K w s p → 0 ≤ p → p ≤ 400 → 0 ≤ d → d ≤ 31 →
    Calls Try.prog 45 #[.pointer (some ⟨K, 0, none⟩), v, .int .i64 d] w fun e w' => SvP K s w (St.runs s d (400 - p) l) e w' := by
  induction N using Nat.strongRecOn with
  | _ N IH =>
  intro v l K s p d w0 w hN hg h hL hK hS hp0 hp1 hd0 hd1
  obtain ⟨a, cap, rfl, hl⟩ := St.slice h
  go_enter Try.func45, Try.ntmps45
  go_wp2_with fail
  go_loopw [11] (fun i wr => ∃ (j : Nat) (q : Int), i = .int .i64 (j : Int) ∧ j ≤ l.length ∧ OnlyK K w wr ∧ Sv K wr s q ∧ 0 ≤ q ∧ q ≤ 400 ∧ Hid (St.soFar s d (400 - p) l j (400 - q))) (fun i _ => l.length - (intOf i).toNat)
  case atStart => exact ⟨0, p, rfl, Nat.zero_le _, OnlyK.refl _ _, hS, hp0, hp1, St.soFar_start _ _ _ _⟩
  case round =>
    obtain ⟨j, q, rfl, hj, oR, hSr, hq0, hq1, HS⟩ := hrel
    by_cases hlt : j < l.length
    · obtain ⟨g, off, v0, v1, v2, v3, rfl, hgs, c0, c1, c2, c3, c4, c5, c6, c7, r0, r1, r2, r3⟩ := St.elem h j hlt
      have i1 : (j : Int) < (l.length : Int) := by omega
      have hLr := later_only hL oR hK
      have c0 : wr.cell? ⟨g, off + j * 8, none⟩ = some (.int .i64 l[j].kind) := by rw [Below.cell hLr (p := ⟨g, off + j * 8, none⟩) hgs]; exact c0
      have c1 : wr.cell? ⟨g, off + j * 8 + 1, none⟩ = some (.int .i64 l[j].n) := by rw [Below.cell hLr (p := ⟨g, off + j * 8 + 1, none⟩) hgs]; exact c1
      have c2 : wr.cell? ⟨g, off + j * 8 + 2, none⟩ = some (.int .i64 l[j].tk) := by rw [Below.cell hLr (p := ⟨g, off + j * 8 + 2, none⟩) hgs]; exact c2
      have c3 : wr.cell? ⟨g, off + j * 8 + 3, none⟩ = some (.int .i64 l[j].tn) := by rw [Below.cell hLr (p := ⟨g, off + j * 8 + 3, none⟩) hgs]; exact c3
      have c4 : wr.cell? ⟨g, off + j * 8 + 4, none⟩ = some (v0) := by rw [Below.cell hLr (p := ⟨g, off + j * 8 + 4, none⟩) hgs]; exact c4
      have c5 : wr.cell? ⟨g, off + j * 8 + 5, none⟩ = some (v1) := by rw [Below.cell hLr (p := ⟨g, off + j * 8 + 5, none⟩) hgs]; exact c5
      have c6 : wr.cell? ⟨g, off + j * 8 + 6, none⟩ = some (v2) := by rw [Below.cell hLr (p := ⟨g, off + j * 8 + 6, none⟩) hgs]; exact c6
      have c7 : wr.cell? ⟨g, off + j * 8 + 7, none⟩ = some (v3) := by rw [Below.cell hLr (p := ⟨g, off + j * 8 + 7, none⟩) hgs]; exact c7
      obtain ⟨y0, q0, rfl, _⟩ := r0.slice
      obtain ⟨y1, q1, rfl, _⟩ := Ex.slice r1
      obtain ⟨y2, q2, rfl, _⟩ := St.slice r2
      obtain ⟨y3, q3, rfl, _⟩ := St.slice r3
      have hE := fun w' (lw : Later wr w') => istmt_any l[j] _ _ _ _ K s q d w0 w' (St.goods_at l j hlt hg) r0 r1 r2 r3 (hLr.trans lw) hK (hSr.later lw) hq0 hq1 hd0 hd1 (fun v' l' p' d' w' g' h' s' L' S' a b c e => IH (St.szs l') (by have := St.sz_at l j hlt; omega) v' l' K s p' d' w0 w' (Nat.le_refl _) g' h' L' hK S' a b c e)
      have HN : Hid (∀ l', St.run s d (400 - q) l[j] = some l' → St.soFar s d (400 - p) l (j + 1) l' ∧ 0 ≤ l' ∧ l' < 400 - q) := fun l' hr => ⟨St.soFar_next HS.out hlt hr, St.run_le s _ _ _ _ hr⟩
      have HB : Hid (St.run s d (400 - q) l[j] = none → St.runs s d (400 - p) l = none) := fun hr => St.soFar_bad HS.out hlt hr
      clear r0 r1 r2 r3 h HS
      generalize St.run s d (400 - q) l[j] = R at *
      generalize l[j].kind = z_kind at *
      generalize l[j].n = z_n at *
      generalize l[j].tk = z_tk at *
      generalize l[j].tn = z_tn at *
      go_wp2_with fail
      refine (hE _ (later1 _ _)).mono ?_
      rintro e w1 ⟨o1, hm⟩
      have o := oR.trans ((OnlyK.of_later (later1 _ _)).trans o1)
      cases R with
      | none =>
        obtain ⟨rfl, p', hS1⟩ := hm
        have hb : Hid (St.runs s d (400 - p) l = none) := HB.out rfl
        go_wp2_with fail
        go_ret
        exact SvP.no o hb.out rfl hS1
      | some l' =>
        obtain ⟨rfl, hS1⟩ := hm
        obtain ⟨n1, n2, n3⟩ := HN.out l' rfl
        have HN1 : Hid (St.soFar s d (400 - p) l (j + 1) (400 - (400 - l'))) := by rw [show (400 : Int) - (400 - l') = l' by omega]; exact n1
        clear n1 HN HB hE
        go_wp2_with fail
        go_roundw
        case rel => exact ⟨j + 1, 400 - l', by go_num, by omega, o, hS1, by omega, by omega, HN1⟩
        case measure => simp [intOf]; omega
    · have i1 : ¬ (j : Int) < (l.length : Int) := by omega
      have i2 : decide ((j : Int) < (l.length : Int)) = false := decide_eq_false i1
      have hjj : j = l.length := by omega
      subst hjj
      have HD : Hid (St.runs s d (400 - p) l = some (400 - q)) := St.soFar_done HS.out
      clear h HS
      go_wp2_with fail
      go_ret
      exact SvP.yes oR HD.out rfl hSr (by omega)
theorem istmts_any (v : Value) (l : List St) (K : Nat) (s p d : Int) (w0 w : World) (hg : St.goods l) (h : RdL w0 8 v (St.dats l)) (hL : Later w0 w) (hK : w0.heap.size ≤ K) (hS : Sv K w s p) (hp0 : 0 ≤ p) (hp1 : p ≤ 400) (hd0 : 0 ≤ d) (hd1 : d ≤ 31) :
    Calls Try.prog 45 #[.pointer (some ⟨K, 0, none⟩), v, .int .i64 d] w fun e w' => SvP K s w (St.runs s d (400 - p) l) e w' := istmts_all _ v l K s p d w0 w (Nat.le_refl _) hg h hL hK hS hp0 hp1 hd0 hd1

/-- A parameter over so many structs. -/
def paOk (s : Int) (x : Pa) : Bool := nameL x.name && tyB x.tk x.tn s false
def paramB (most s : Int) (l : List Pa) : Bool := decide ((l.length : Int) ≤ most) && l.all (paOk s)
theorem all_no {α : Type} {l : List α} {f : α → Bool} {j : Nat} (h : j < l.length) (hf : f l[j] = false) : l.all f = false := by
  rw [← Bool.not_eq_true, List.all_eq_true]
  intro ha
  rw [ha _ (List.getElem_mem h)] at hf
  cases hf
theorem all_yes {α : Type} {l : List α} {f : α → Bool} (h : ∀ j (hj : j < l.length), f l[j] = true) : l.all f = true := by
  rw [List.all_eq_true]
  intro x hx
  obtain ⟨j, hj, rfl⟩ := List.mem_iff_getElem.1 hx
  exact h j hj
set_option maxHeartbeats 2000000 in
theorem iparams_any (v : Value) (l : List Pa) (most s : Int) (w : World) (h : RdL w 3 v (Pa.dats l)) : Calls Try.prog 42 #[v, .int .i64 most, .int .i64 s] w fun e w' => e = .returned (.bool (paramB most s l)) ∧ Later w w' := by
  obtain ⟨a, cap, rfl, hl⟩ := Pa.slice h
  unfold paramB
  by_cases hm : (l.length : Int) ≤ most
  · rw [decide_eq_true hm, Bool.true_and]
    have hm' : ¬ most < (l.length : Int) := by omega
    go_enter Try.func42, Try.ntmps42
    go_wp2_with fail
    go_loopw [15] (fun i wr => ∃ (j : Nat), i = .int .i64 (j : Int) ∧ j ≤ l.length ∧ Later w wr ∧ Hid (∀ i (hi : i < l.length), i < j → paOk s l[i] = true)) (fun i _ => l.length - (intOf i).toNat)
    case atStart => exact ⟨0, rfl, Nat.zero_le _, Later.refl _, fun i _ hj => absurd hj (Nat.not_lt_zero _)⟩
    case round =>
      obtain ⟨j, rfl, hj, lr, HA⟩ := hrel
      by_cases hlt : j < l.length
      · obtain ⟨g, off, v0, rfl, hgs, c0, c1, c2, r0⟩ := Pa.elem (RdL.later lr h) j hlt
        have i1 : (j : Int) < (l.length : Int) := by omega
        have hN := fun w' (ll : Later wr w') => iname_any v0 l[j].name w' (r0.later ll)
        have hT := fun w' => ity_any l[j].tk l[j].tn s w'
        obtain ⟨y0, q0, rfl, _⟩ := r0.slice
        have HB : Hid (paOk s l[j] = false → l.all (paOk s) = false) := fun hf => all_no hlt hf
        have HG : Hid (paOk s l[j] = true → ∀ i (hi : i < l.length), i < j + 1 → paOk s l[i] = true) := fun hf i hi hij => by
          rcases Nat.lt_or_ge i j with a | a
          · exact HA.out i hi a
          · have : i = j := by omega
            subst this
            exact hf
        have HQ : Hid (paOk s l[j] = (nameL l[j].name && tyB l[j].tk l[j].tn s false)) := rfl
        clear r0 HA h
        generalize paOk s l[j] = ok at *
        generalize nameL l[j].name = nb at *
        generalize tyB l[j].tk l[j].tn s false = tb at *
        generalize l[j].tk = z_tk at *
        generalize l[j].tn = z_tn at *
        cases nb
        · have hb := HB.out HQ.out
          have HB' : Hid (l.all (paOk s) = false) := hb
          clear hb HG HB hT
          go_wp2_with (go_at_call 43; refine (hN _ (later1 _ _)).mono ?_; rintro e w1 ⟨rfl, hww⟩; obtain rfl := hww.symm)
          go_ret
          exact ⟨ret_bool HB'.out.symm, lr.alloc _⟩
        · cases tb
          · have hb := HB.out HQ.out
            have HB' : Hid (l.all (paOk s) = false) := hb
            clear hb HG HB
            go_wp2_with (first | (go_at_call 43; refine (hN _ (later1 _ _)).mono ?_; rintro e w1 ⟨rfl, hww⟩; obtain rfl := hww.symm) | (go_at_call 44; refine (hT _).mono ?_; rintro e w1 ⟨rfl, l1⟩))
            go_ret
            exact ⟨ret_bool HB'.out.symm, (lr.alloc _).trans l1⟩
          · have hb := HG.out HQ.out
            have HG' : Hid (∀ i (hi : i < l.length), i < j + 1 → paOk s l[i] = true) := hb
            clear hb HG HB
            go_wp2_with (first | (go_at_call 43; refine (hN _ (later1 _ _)).mono ?_; rintro e w1 ⟨rfl, hww⟩; obtain rfl := hww.symm) | (go_at_call 44; refine (hT _).mono ?_; rintro e w1 ⟨rfl, l1⟩))
            go_roundw
            case rel => exact ⟨j + 1, by go_num, by omega, (lr.alloc _).trans l1, HG'⟩
            case measure => simp [intOf]; omega
      · have i1 : ¬ (j : Int) < (l.length : Int) := by omega
        have i2 : decide ((j : Int) < (l.length : Int)) = false := decide_eq_false i1
        have HY : Hid (l.all (paOk s) = true) := all_yes fun i hi => HA.out i hi (by omega)
        clear HA h
        go_wp2_with fail
        go_ret
        exact ⟨ret_bool HY.out.symm, lr⟩
  · rw [decide_eq_false hm, Bool.false_and]
    have hm' : most < (l.length : Int) := by omega
    go_enter Try.func42, Try.ntmps42
    go_wp2_with fail
    go_ret
    exact ⟨rfl, Later.refl _⟩

theorem equal_any (v u : Value) (xs ys : List Int) (w : World) (h : RdB w v xs) (k : RdB w u ys) : Calls Try.prog 61 #[v, u] w fun e w' => e = .returned (.bool (decide (xs = ys))) ∧ w' = w := by
  have hc := conv_here h
  have kc := conv_here k
  have hs := str_inj h.isB k.isB
  obtain ⟨a, cap, rfl, _⟩ := h.slice
  obtain ⟨b, cap', rfl, _⟩ := k.slice
  clear h k
  go_enter Try.func61, Try.ntmps61
  go_wp2_with fail
  go_ret
  exact ⟨rfl, rfl⟩

/-- Is a name among those of structs? -/
def anyB (l : List Sc) (nm : List Int) : Bool := l.any fun x => x.name == nm
theorem any_yes {l : List Sc} {nm : List Int} {j : Nat} (h : j < l.length) (e : l[j].name = nm) : anyB l nm = true := by
  unfold anyB
  rw [List.any_eq_true]
  exact ⟨_, List.getElem_mem h, by rw [e]; exact beq_self_eq_true _⟩
theorem any_no {l : List Sc} {nm : List Int} (h : ∀ j (hj : j < l.length), l[j].name ≠ nm) : anyB l nm = false := by
  unfold anyB
  rw [← Bool.not_eq_true, List.any_eq_true]
  rintro ⟨x, hx, e⟩
  obtain ⟨j, hj, rfl⟩ := List.mem_iff_getElem.1 hx
  exact h j hj (by simpa using e)
set_option maxHeartbeats 2000000 in
theorem inamed_any (v u : Value) (l : List Sc) (nm : List Int) (w : World) (h : RdL w 2 v (Sc.dats l)) (k : RdB w u nm) : Calls Try.prog 41 #[v, u] w fun e w' => (∃ n, e = .returned (.int .i64 n) ∧ decide (0 ≤ n) = anyB l nm) ∧ Later w w' := by
  obtain ⟨a, cap, rfl, hl⟩ := Sc.slice h
  obtain ⟨b, cap', rfl, _⟩ := k.slice
  refine Calls.mono (R := fun e w' => Hid ((∃ n, e = .returned (.int .i64 n) ∧ decide (0 ≤ n) = anyB l nm) ∧ Later w w')) ?_ (fun _ _ h => h.out)
  go_enter Try.func41, Try.ntmps41
  go_wp2_with fail
  go_loopw [9] (fun i wr => ∃ (j : Nat), i = .int .i64 (j : Int) ∧ j ≤ l.length ∧ Later w wr ∧ Hid (∀ i (hi : i < l.length), i < j → l[i].name ≠ nm)) (fun i _ => l.length - (intOf i).toNat)
  case atStart => exact ⟨0, rfl, Nat.zero_le _, Later.refl _, fun i _ hj => absurd hj (Nat.not_lt_zero _)⟩
  case round =>
    obtain ⟨j, rfl, hj, lr, HA⟩ := hrel
    by_cases hlt : j < l.length
    · obtain ⟨g, off, v0, v1, rfl, hgs, c0, c1, r0, r1⟩ := Sc.elem (RdL.later lr h) j hlt
      have i1 : (j : Int) < (l.length : Int) := by omega
      have hE := fun w' (ll : Later wr w') => equal_any v0 _ l[j].name nm w' (r0.later ll).rd (k.later (lr.trans ll))
      obtain ⟨y0, q0, rfl, _⟩ := r0.slice
      obtain ⟨y1, q1, rfl, _⟩ := Pa.slice r1
      by_cases q : l[j].name = nm
      · have HY : Hid (anyB l nm = true) := any_yes hlt q
        rw [decide_eq_true q] at hE
        clear r0 r1 HA h k q
        go_wp2_with (go_at_call 61; refine (hE _ (later1 _ _)).mono ?_; rintro e w1 ⟨rfl, hww⟩; obtain rfl := hww.symm)
        go_ret
        exact ⟨⟨_, rfl, by rw [HY.out]; exact decide_eq_true (by omega)⟩, lr.alloc _⟩
      · have HN : Hid (∀ i (hi : i < l.length), i < j + 1 → l[i].name ≠ nm) := fun i hi hij => by
          rcases Nat.lt_or_ge i j with a | a
          · exact HA.out i hi a
          · have : i = j := by omega
            subst this
            exact q
        rw [decide_eq_false q] at hE
        clear r0 r1 HA h k q
        go_wp2_with (go_at_call 61; refine (hE _ (later1 _ _)).mono ?_; rintro e w1 ⟨rfl, hww⟩; obtain rfl := hww.symm)
        go_roundw
        case rel => exact ⟨j + 1, by go_num, by omega, lr.alloc _, HN⟩
        case measure => simp [intOf]; omega
    · have i1 : ¬ (j : Int) < (l.length : Int) := by omega
      have i2 : decide ((j : Int) < (l.length : Int)) = false := decide_eq_false i1
      have HN : Hid (anyB l nm = false) := any_no fun i hi => HA.out i hi (by omega)
      clear HA h k
      go_wp2_with fail
      go_ret
      exact ⟨⟨_, rfl, by rw [HN.out]; rfl⟩, lr⟩

end Go.Proofs.Ytpgfajpjcibmgaa
