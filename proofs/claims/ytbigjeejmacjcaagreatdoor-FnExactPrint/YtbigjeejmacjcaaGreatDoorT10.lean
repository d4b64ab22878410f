/- What fits a form; parts that are counted, by the program. -/
import Derived.Test.YtbigjeejmacjcaaGreatDoorT9
namespace Go.Proofs.YtbigjeejmacjcaaGreatDoor
open Go.RowKit

/-- A survey: how many structs, how many parts so far. -/
structure Sv (K : Nat) (w : World) (s p : Int) : Prop where
  c0 : w.cell? ⟨K, 0, none⟩ = some (.int .i64 s)
  c1 : w.cell? ⟨K, 1, none⟩ = some (.int .i64 p)
  f1 : w.frozen? ⟨K, 1, none⟩ = false
  lt : K < w.heap.size
theorem Sv.later {K : Nat} {w w' : World} {s p : Int} (h : Sv K w s p) (hb : Later w w') : Sv K w' s p :=
  ⟨by rw [Below.cell hb (p := ⟨K, 0, none⟩) h.lt]; exact h.c0, by rw [Below.cell hb (p := ⟨K, 1, none⟩) h.lt]; exact h.c1, by rw [Below.frozen hb (p := ⟨K, 1, none⟩) h.lt]; exact h.f1, Nat.lt_of_lt_of_le h.lt hb.size⟩

def numB (want n s : Int) : Bool := if want = 1 then true else if want = 2 then canon n else if want = 3 then decide (0 ≤ n) && decide (n < s) else if want = 4 then decide (0 ≤ n) && decide (n < 7) else n == 0
def typB (want tk tn s : Int) : Bool := if want = 1 then tyB tk tn s false else if want = 2 then tylB tk tn s else (tk == 0) && (tn == 0)

set_option maxHeartbeats 1000000 in
theorem inum_any (K : Nat) (want n s p : Int) (w : World) (hn : InR n) (hS : Sv K w s p) : Calls Tryz.prog 115 #[.pointer (some ⟨K, 0, none⟩), .int .i64 want, .int .i64 n] w fun e w' => e = .returned (.bool (numB want n s)) ∧ w' = w := by
  have hc := icanon_any n hn w
  have c0 := hS.c0
  unfold numB
  generalize canon n = cn at *
  clear hS hn
  rcases (by omega : want = 1 ∨ want = 2 ∨ want = 3 ∨ want = 4 ∨ (want ≠ 1 ∧ want ≠ 2 ∧ want ≠ 3 ∧ want ≠ 4)) with rfl | rfl | rfl | rfl | ⟨n1, n2, n3, n4⟩
  · go_enter Tryz.func115, Tryz.ntmps115
    go_wp2_with fail
    go_ret
    exact ⟨rfl, rfl⟩
  · go_enter Tryz.func115, Tryz.ntmps115
    go_wp2_with (go_at_call 122; refine hc.mono ?_; rintro e w1 ⟨rfl, hww⟩; obtain rfl := hww.symm)
    go_ret
    exact ⟨rfl, rfl⟩
  · go_enter Tryz.func115, Tryz.ntmps115
    go_wp2_with (go_at_call 85; refine (place_any _ _ _).mono ?_; rintro e w1 ⟨rfl, hww⟩; obtain rfl := hww.symm)
    go_ret
    exact ⟨rfl, rfl⟩
  · go_enter Tryz.func115, Tryz.ntmps115
    go_wp2_with (go_at_call 85; refine (place_any _ _ _).mono ?_; rintro e w1 ⟨rfl, hww⟩; obtain rfl := hww.symm)
    go_ret
    exact ⟨rfl, rfl⟩
  · rw [if_neg n1, if_neg n2, if_neg n3, if_neg n4]
    have e1 := neb n1
    have e2 := neb n2
    have e3 := neb n3
    have e4 := neb n4
    clear n1 n2 n3 n4
    go_enter Tryz.func115, Tryz.ntmps115
    go_wp2_with fail
    go_ret
    exact ⟨rfl, rfl⟩

theorem buildTy (w : World) : (Instr.build 55 #[]).run Tryz.prog w = .ok (.agg #[.int .i64 0, .int .i64 0]) w := run_build w 55 _ _ (by kernel_rfl)
set_option maxHeartbeats 1000000 in
theorem ityp_any (K : Nat) (want tk tn s p : Int) (w : World) (hS : Sv K w s p) : Calls Tryz.prog 116 #[.pointer (some ⟨K, 0, none⟩), .int .i64 want, .agg #[.int .i64 tk, .int .i64 tn]] w fun e w' => e = .returned (.bool (typB want tk tn s)) ∧ Later w w' := by
  have c0 := hS.c0
  have hK := hS.lt
  unfold typB
  have hE := fun w => ity_any tk tn s w
  have hL := fun w => ilist_any tk tn s w
  clear hS
  rcases (by omega : want = 1 ∨ want = 2 ∨ (want ≠ 1 ∧ want ≠ 2)) with rfl | rfl | ⟨n1, n2⟩
  · generalize tyB tk tn s false = b at *
    go_enter Tryz.func116, Tryz.ntmps116
    go_wp2_with fail
    go_region_with (go_at_call 62; refine (hE _).mono ?_; rintro e w1 ⟨rfl, l1⟩)
    all_goals
      go_wp2_with fail
      go_ret
      exact ⟨rfl, (later1 _ _).trans ((Later.drew _).trans l1)⟩
  · generalize tylB tk tn s = b at *
    go_enter Tryz.func116, Tryz.ntmps116
    go_wp2_with fail
    go_region_with (go_at_call 123; refine (hL _).mono ?_; rintro e w1 ⟨rfl, l1⟩)
    all_goals
      go_wp2_with fail
      go_ret
      exact ⟨rfl, (later1 _ _).trans ((Later.drew _).trans l1)⟩
  · rw [if_neg n1, if_neg n2]
    have e1 := neb n1
    have e2 := neb n2
    have hb := buildTy
    clear n1 n2 hE hL
    go_enter Tryz.func116, Tryz.ntmps116
    go_wp2_with fail
    all_goals
      go_ret
      exact ⟨ret_bool (by first | rfl | simp_all), later1 _ _⟩

/-- Does what a part has fit a form? -/
def fitsB (f : Form) (n tk tn : Int) (name : List Int) (kids : Nat) (s : Int) : Bool := decide (f.1 ≤ (kids : Int)) && decide ((kids : Int) ≤ f.2.1) && (if f.2.2.2.2.1 then nameL name else decide (name.length = 0)) && numB f.2.2.1 n s && typB f.2.2.2.1 tk tn s

set_option maxHeartbeats 2000000 in
theorem ifits_any (K : Nat) (f : Form) (n tk tn s p : Int) (v : Value) (name : List Int) (ka : Option Addr) (kids kc : Nat) (w : World) (hn : InR n) (hS : Sv K w s p) (hN : RdN w v name) :
    Calls Tryz.prog 103 #[.pointer (some ⟨K, 0, none⟩), formV f, .int .i64 n, .agg #[.int .i64 tk, .int .i64 tn], v, .slice ka kids kc] w fun e w' => e = .returned (.bool (fitsB f n tk tn name kids s)) ∧ Later w w' := by
  obtain ⟨fe, mo, fn, ft, na, bo, ot⟩ := f
  have L := later2 w (.cells #[.int .i64 fe, .int .i64 mo, .int .i64 fn, .int .i64 ft, .bool na, .bool bo, .bool ot] 150) (.cells #[.int .i64 tk, .int .i64 tn] 55)
  have hnu := fun w' (l : Later w w') => inum_any K fn n s p w' hn (hS.later l)
  have hty := fun w' (l : Later w w') => ityp_any K ft tk tn s p w' (hS.later l)
  have hna := fun w' (l : Later w w') => iname_any v name w' (hN.later l)
  obtain ⟨a, cap, rfl, hl⟩ := hN.slice
  unfold formV fitsB
  dsimp only
  generalize numB fn n s = nb at *
  generalize typB ft tk tn s = tb at *
  generalize nameL name = mb at *
  clear hN hS hn
  by_cases h1 : fe ≤ (kids : Int)
  · by_cases h2 : (kids : Int) ≤ mo
    · rw [decide_eq_true h1, decide_eq_true h2]
      have g1 : ¬ (kids : Int) < fe := by omega
      have g2 : ¬ mo < (kids : Int) := by omega
      cases na
      · by_cases h3 : name.length = 0
        · rw [decide_eq_true h3]
          have g3 : ¬ (0 : Int) < (name.length : Int) := by omega
          cases nb
          all_goals
            go_enter Tryz.func103, Tryz.ntmps103
            go_wp2_with (first | (go_at_call 115; refine (hnu _ L).mono ?_; rintro e w1 ⟨rfl, hww⟩; obtain rfl := hww.symm) | (go_at_call 116; refine (hty _ L).mono ?_; rintro e w1 ⟨rfl, l1⟩))
            go_ret
            first | exact ⟨rfl, L⟩ | exact ⟨ret_bool (by simp), L.trans l1⟩
        · rw [decide_eq_false h3]
          have g3 : (0 : Int) < (name.length : Int) := by omega
          go_enter Tryz.func103, Tryz.ntmps103
          go_wp2_with fail
          go_ret
          exact ⟨ret_bool (by simp), L⟩
      · cases mb
        · go_enter Tryz.func103, Tryz.ntmps103
          go_wp2_with (go_at_call 61; refine (hna _ L).mono ?_; rintro e w1 ⟨rfl, hww⟩; obtain rfl := hww.symm)
          go_ret
          exact ⟨ret_bool (by simp), L⟩
        · cases nb
          all_goals
            go_enter Tryz.func103, Tryz.ntmps103
            go_wp2_with (first | (go_at_call 61; refine (hna _ L).mono ?_; rintro e w1 ⟨rfl, hww⟩; obtain rfl := hww.symm) | (go_at_call 115; refine (hnu _ L).mono ?_; rintro e w1 ⟨rfl, hww⟩; obtain rfl := hww.symm) | (go_at_call 116; refine (hty _ L).mono ?_; rintro e w1 ⟨rfl, l1⟩))
            go_ret
            first | exact ⟨rfl, L⟩ | exact ⟨ret_bool (by simp), L.trans l1⟩
    · rw [decide_eq_false h2]
      have g1 : ¬ (kids : Int) < fe := by omega
      have g2 : mo < (kids : Int) := by omega
      go_enter Tryz.func103, Tryz.ntmps103
      go_wp2_with fail
      go_ret
      exact ⟨ret_bool (by simp), L⟩
  · rw [decide_eq_false h1]
    have g1 : (kids : Int) < fe := by omega
    go_enter Tryz.func103, Tryz.ntmps103
    go_wp2_with fail
    go_ret
    exact ⟨ret_bool (by simp), L⟩

/-- Of what was there only block K may have turned; K holds the survey. -/
theorem OnlyK.of_later {K : Nat} {w w' : World} (h : Later w w') : OnlyK K w w' := OnlyK.later h (Nat.le_refl _)
set_option maxHeartbeats 1000000 in
theorem ienter_any (K : Nat) (s p d : Int) (w : World) (hS : Sv K w s p) (hp0 : 0 ≤ p) (hp1 : p ≤ 400) : Calls Tryz.prog 102 #[.pointer (some ⟨K, 0, none⟩), .int .i64 d] w fun e w' => e = .returned (.bool (decide (p + 1 ≤ 400) && decide (d ≤ 30))) ∧ Sv K w' s (p + 1) ∧ OnlyK K w w' := by
  have c0 := hS.c0
  have c1 := hS.c1
  have f1 := hS.f1
  have lt := hS.lt
  have HE : Hid (Sv K (w.setCell ⟨K, 1, none⟩ (.int .i64 (p + 1))) s (p + 1) ∧ OnlyK K w (w.setCell ⟨K, 1, none⟩ (.int .i64 (p + 1)))) := ⟨⟨by rw [set_off _ _ _ (by decide)]; exact c0, set_same c1, by rw [World.frozen?_setCell]; exact f1, by rw [World.size_setCell]; exact lt⟩, (OnlyK.refl _ _).set _ _⟩
  clear hS
  by_cases h : p + 1 ≤ 400
  · rw [decide_eq_true h]
    go_enter Tryz.func102, Tryz.ntmps102
    go_wp2_with fail
    go_ret
    exact ⟨ret_bool (by simp), HE.out⟩
  · rw [decide_eq_false h]
    go_enter Tryz.func102, Tryz.ntmps102
    go_wp2_with fail
    go_ret
    exact ⟨ret_bool (by simp), HE.out⟩

end Go.Proofs.YtbigjeejmacjcaaGreatDoor
