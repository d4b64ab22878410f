/- CopyWords: the model's. -/
import Derived.Test.YtfmfkfijlfeimaaDoorM8
import Derived.BigRegion
namespace Go.Proofs.YtfmfkfijlfeimaaDoor
open Go.RowKit

/-- Are n words there from a place on? -/
def rOk (len : Nat) (p n : Int) : Bool := decide (0 ≤ p) && decide (p ≤ (len : Int)) && decide (0 ≤ n) && decide (n ≤ (len : Int) - p)
def okC (zs : List Int) (f t n : Int) : Bool := rOk zs.length f n && rOk zs.length t n
/-- The list behind k words. -/
def cp (zs : List Int) (f t k : Nat) : List Int := zs.take t ++ ((zs.drop f).take k ++ zs.drop (t + k))
def copyL (zs : List Int) (f t n : Int) : List Int := if okC zs f t n then cp zs f.toNat t.toNat n.toNat else zs
theorem cp_len {zs : List Int} {f t k : Nat} (hf : f + k ≤ zs.length) (ht : t + k ≤ zs.length) : (cp zs f t k).length = zs.length := by
  unfold cp; simp; omega
theorem cp_step {zs : List Int} {f t k : Nat} (hf : f + k < zs.length) (ht : t + k < zs.length) : (cp zs f t k).set (t + k) (zs.getD (f + k) 0) = cp zs f t (k + 1) := by
  unfold cp
  have h1 : (zs.take t).length = t := by simp; omega
  have h2 : ((zs.drop f).take k).length = k := by simp; omega
  rw [List.set_append_right _ _ (by omega), h1, Nat.add_sub_cancel_left, List.set_append_right _ _ (by omega), h2, Nat.sub_self]
  congr 1
  rw [List.drop_eq_getElem_cons (i := t + k) ht, List.set_cons_zero, List.take_succ_eq_append_getElem (by simp; omega), List.append_assoc]
  congr 1
  rw [List.getElem_drop, List.getD_eq_getElem?_getD, List.getElem?_eq_getElem hf]
  rfl
theorem rOk_true {len : Nat} {p n : Int} (h : rOk len p n = true) : 0 ≤ p ∧ 0 ≤ n ∧ p + n ≤ (len : Int) := by
  unfold rOk at h
  simp only [Bool.and_eq_true, decide_eq_true_eq] at h
  omega
theorem copyL_len (zs : List Int) (f t n : Int) : (copyL zs f t n).length = zs.length := by
  unfold copyL
  split
  · rename_i h
    unfold okC at h
    rw [Bool.and_eq_true] at h
    have h1 := rOk_true h.1
    have h2 := rOk_true h.2
    exact cp_len (by omega) (by omega)
  · rfl
/-- What CopyWords answers. -/
def CopyC (fn : Nat) (v : Value) : Prop := ∀ (zs : List Int) (f t n : Int) (w : World), Rd w v zs → zs.length ≤ 1048576 → InR f → InR t → InR n → Calls Tryd.prog fn #[.agg #[v], .int .i64 f, .int .i64 t, .int .i64 n] w fun e w' =>
  ∃ v', e = .returned (.tuple #[.agg #[v'], .bool (okC zs f t n)]) ∧ w'.ownsRow w.heap.size 3 1 v' zs.length ((copyL zs f t n).map (Value.int .i64)) ∧ Later w w'

/-- What CopyWords answers where variable 0 holds 'ev'. -/
def CopyG (fn : Nat) (ev v : Value) : Prop := ∀ (zs : List Int) (f t n : Int) (w : World), Box w 0 ev → Rd w v zs → zs.length ≤ 1048576 → InR f → InR t → InR n → Calls Tryd.prog fn #[.agg #[v], .int .i64 f, .int .i64 t, .int .i64 n] w fun e w' =>
  ∃ v', e = .returned (.tuple #[.agg #[v'], .bool (okC zs f t n)]) ∧ w'.ownsRow w.heap.size 3 1 v' zs.length ((copyL zs f t n).map (Value.int .i64)) ∧ Later w w'

set_option maxHeartbeats 400000 in
theorem range_any (a : Option Addr) (len cap : Nat) (p n : Int) (w : World) (hl : (len : Int) ≤ 1048576) (hp : -9223372036854775808 ≤ p) (hp' : p ≤ 9223372036854775807) :
    Calls Tryd.prog 37 #[.agg #[.slice a len cap], .int .i64 p, .int .i64 n] w fun e w' => e = .returned (.bool (rOk len p n)) ∧ Later w w' := by
  by_cases h0 : 0 ≤ p
  · by_cases h1 : p ≤ (len : Int)
    · by_cases h2 : 0 ≤ n
      · by_cases h3 : n ≤ (len : Int) - p
        · have e : rOk len p n = true := by unfold rOk; simp [h0, h1, h2, h3]
          rw [e]
          go_enter Tryd.func37, Tryd.ntmps37
          go_wp2
          go_ret
          exact ⟨rfl, later1 _ _⟩
        · have e : rOk len p n = false := by unfold rOk; simp [h3]
          have h3' : decide (n ≤ (len : Int) - p) = false := decide_eq_false h3
          rw [e]
          go_enter Tryd.func37, Tryd.ntmps37
          go_wp2
          go_ret
          exact ⟨rfl, later1 _ _⟩
      · have e : rOk len p n = false := by unfold rOk; simp [h2]
        rw [e]
        go_enter Tryd.func37, Tryd.ntmps37
        go_wp2
        go_ret
        exact ⟨rfl, later1 _ _⟩
    · have e : rOk len p n = false := by unfold rOk; simp [h1]
      rw [e]
      go_enter Tryd.func37, Tryd.ntmps37
      go_wp2
      go_ret
      exact ⟨rfl, later1 _ _⟩
  · have e : rOk len p n = false := by unfold rOk; simp [h0]
    rw [e]
    go_enter Tryd.func37, Tryd.ntmps37
    go_wp2
    go_ret
    exact ⟨rfl, later1 _ _⟩

set_option maxHeartbeats 1000000 in
theorem scopyw_any (y : Addr) (len cap : Nat) : CopyC 21 (.slice (some y) len cap) := by
  intro zs f t n w h hs hf ht hn
  obtain ⟨_, _, e, hl, hrd⟩ := id h
  cases e
  have hs' : (zs.length : Int) ≤ 1048576 := by omega
  have W0 := later2 w (.cells #[.slice (some y) zs.length cap] 25) (.cells #[.slice none 0 0] 25)
  have R := h.later W0
  have B1 : Box ((w.alloc (.cells #[.slice (some y) zs.length cap] 25)).alloc (.cells #[.slice none 0 0] 25)) (w.heap.size + 1) (.slice none 0 0) := ⟨by simp, by simp⟩
  have F1 : ((w.alloc (.cells #[.slice (some y) zs.length cap] 25)).alloc (.cells #[.slice none 0 0] 25)).frozen? ⟨w.heap.size + 1, 0, none⟩ = false := by simp
  have B0 : Box ((w.alloc (.cells #[.slice (some y) zs.length cap] 25)).alloc (.cells #[.slice none 0 0] 25)) w.heap.size (.slice (some y) zs.length cap) := ⟨by simp, by simp; omega⟩
  have hmono : w.heap.size + 2 ≤ ((w.alloc (.cells #[.slice (some y) zs.length cap] 25)).alloc (.cells #[.slice none 0 0] 25)).heap.size := by simp
  rcases e1 : rOk zs.length f n
  · have e0 : okC zs f t n = false := by unfold okC; rw [e1]; rfl
    have e2 : copyL zs f t n = zs := by unfold copyL; rw [e0]; rfl
    rw [e0, e2]
    clear e0 e2 h hrd
    go_enter Tryd.func21, Tryd.ntmps21
    go_wp2_with fail
    refine (scopy_any _ _ zs _ hs R).mono ?_
    rintro e w1 ⟨v, rfl, o1, l1⟩
    obtain ⟨av, pv, rfl⟩ := own_slice o1
    have F1' : w1.frozen? ⟨w.heap.size + 1, 0, none⟩ = false := by rw [Below.frozen l1 (p := ⟨w.heap.size + 1, 0, none⟩) B1.lt]; exact F1
    replace B1 := B1.later l1
    replace B0 := B0.later l1
    have L1 := W0.trans l1
    replace o1 := own_mono o1 hmono
    have c1 := B1.cell
    have c0 := B0.cell
    have t1 := B1.lt
    have t0 := B0.lt
    clear F1 hmono W0 R l1
    go_wp2_with fail
    have W1 := later1 w1 (.cells #[.slice av zs.length pv] 25)
    have B10 := Box.new w1 (.slice av zs.length pv) 25
    replace B1 := B1.later W1
    replace B0 := B0.later W1
    replace L1 := L1.trans W1
    replace o1 := later_own o1 W1
    have F1'' : (w1.alloc (.cells #[.slice av zs.length pv] 25)).frozen? ⟨w.heap.size + 1, 0, none⟩ = false := by rw [Below.frozen W1 (p := ⟨w.heap.size + 1, 0, none⟩) t1]; exact F1'
    clear F1'
    refine (range_any _ _ _ f n _ hs' hf.1 hf.2).mono ?_
    rintro e w2 ⟨rfl, l2⟩
    rw [e1]
    have F2 : w2.frozen? ⟨w.heap.size + 1, 0, none⟩ = false := by rw [Below.frozen l2 (p := ⟨w.heap.size + 1, 0, none⟩) B1.lt]; exact F1''
    replace B1 := B1.later l2
    replace B0 := B0.later l2
    replace B10 := B10.later l2
    replace L1 := L1.trans l2
    replace o1 := later_own o1 l2
    replace c1 := B1.cell
    replace c0 := B0.cell
    have c10_2 := B10.cell
    have u1_2 := B1.lt
    have u10_2 := B10.lt
    clear l2 F1''
    clear W1
    generalize w1.heap.size = b10 at *
    go_wp2_with fail
    have BR := B1.set (.slice av zs.length pv)
    have cr := BR.cell
    refine bodyPost_ret (v := .tuple #[.agg #[.slice av zs.length pv], .bool false]) (by simp [results, Tryd.results21, go_sem, cr]) rfl ⟨_, rfl, ?_, ?_⟩
    · exact own_mono (ownsRow_setCell_below o1 (by simp) _) (by omega)
    · exact Below.setCell L1 (by simp) _
  rcases e3 : rOk zs.length t n
  · have e0 : okC zs f t n = false := by unfold okC; rw [e1, e3]; rfl
    have e2 : copyL zs f t n = zs := by unfold copyL; rw [e0]; rfl
    rw [e0, e2]
    clear e0 e2 h hrd
    go_enter Tryd.func21, Tryd.ntmps21
    go_wp2_with fail
    refine (scopy_any _ _ zs _ hs R).mono ?_
    rintro e w1 ⟨v, rfl, o1, l1⟩
    obtain ⟨av, pv, rfl⟩ := own_slice o1
    have F1' : w1.frozen? ⟨w.heap.size + 1, 0, none⟩ = false := by rw [Below.frozen l1 (p := ⟨w.heap.size + 1, 0, none⟩) B1.lt]; exact F1
    replace B1 := B1.later l1
    replace B0 := B0.later l1
    have L1 := W0.trans l1
    replace o1 := own_mono o1 hmono
    have c1 := B1.cell
    have c0 := B0.cell
    have t1 := B1.lt
    have t0 := B0.lt
    clear F1 hmono W0 R l1
    go_wp2_with fail
    have W1 := later1 w1 (.cells #[.slice av zs.length pv] 25)
    have B10 := Box.new w1 (.slice av zs.length pv) 25
    replace B1 := B1.later W1
    replace B0 := B0.later W1
    replace L1 := L1.trans W1
    replace o1 := later_own o1 W1
    have F1'' : (w1.alloc (.cells #[.slice av zs.length pv] 25)).frozen? ⟨w.heap.size + 1, 0, none⟩ = false := by rw [Below.frozen W1 (p := ⟨w.heap.size + 1, 0, none⟩) t1]; exact F1'
    clear F1'
    refine (range_any _ _ _ f n _ hs' hf.1 hf.2).mono ?_
    rintro e w2 ⟨rfl, l2⟩
    rw [e1]
    have F2 : w2.frozen? ⟨w.heap.size + 1, 0, none⟩ = false := by rw [Below.frozen l2 (p := ⟨w.heap.size + 1, 0, none⟩) B1.lt]; exact F1''
    replace B1 := B1.later l2
    replace B0 := B0.later l2
    replace B10 := B10.later l2
    replace L1 := L1.trans l2
    replace o1 := later_own o1 l2
    replace c1 := B1.cell
    replace c0 := B0.cell
    have c10_2 := B10.cell
    have u1_2 := B1.lt
    have u10_2 := B10.lt
    clear l2 F1''
    clear W1
    generalize w1.heap.size = b10 at *
    go_wp2_with fail
    refine (range_any _ _ _ t n _ hs' ht.1 ht.2).mono ?_
    rintro e w3 ⟨rfl, l3⟩
    rw [e3]
    have F3 : w3.frozen? ⟨w.heap.size + 1, 0, none⟩ = false := by rw [Below.frozen l3 (p := ⟨w.heap.size + 1, 0, none⟩) B1.lt]; exact F2
    replace B1 := B1.later l3
    replace B0 := B0.later l3
    replace B10 := B10.later l3
    replace L1 := L1.trans l3
    replace o1 := later_own o1 l3
    replace c1 := B1.cell
    replace c0 := B0.cell
    have c10_3 := B10.cell
    have u1_3 := B1.lt
    have u10_3 := B10.lt
    clear l3 F2
    clear c10_2
    skip
    go_wp2_with fail
    have BR := B1.set (.slice av zs.length pv)
    have cr := BR.cell
    refine bodyPost_ret (v := .tuple #[.agg #[.slice av zs.length pv], .bool false]) (by simp [results, Tryd.results21, go_sem, cr]) rfl ⟨_, rfl, ?_, ?_⟩
    · exact own_mono (ownsRow_setCell_below o1 (by simp) _) (by omega)
    · exact Below.setCell L1 (by simp) _
  · have e0 : okC zs f t n = true := by unfold okC; rw [e1, e3]; rfl
    have e2 : copyL zs f t n = cp zs f.toNat t.toNat n.toNat := by unfold copyL; rw [e0]; rfl
    obtain ⟨f0, n0, hfn⟩ := rOk_true e1
    obtain ⟨t0', _, htn⟩ := rOk_true e3
    obtain ⟨F, rfl⟩ : ∃ F : Nat, f = (F : Int) := ⟨f.toNat, by omega⟩
    obtain ⟨T, rfl⟩ : ∃ T : Nat, t = (T : Int) := ⟨t.toNat, by omega⟩
    obtain ⟨M, rfl⟩ : ∃ M : Nat, n = (M : Int) := ⟨n.toNat, by omega⟩
    rw [Int.toNat_natCast, Int.toNat_natCast, Int.toNat_natCast] at e2
    rw [e0, e2]
    clear e0 e2
    go_enter Tryd.func21, Tryd.ntmps21
    go_wp2_with fail
    refine (scopy_any _ _ zs _ hs R).mono ?_
    rintro e w1 ⟨v, rfl, o1, l1⟩
    obtain ⟨av, pv, rfl⟩ := own_slice o1
    have hgb : ∀ g, (Value.slice av zs.length pv).ownBlock = some g → g < w1.heap.size := fun g hg => (own_lt o1 g hg).2
    have F1' : w1.frozen? ⟨w.heap.size + 1, 0, none⟩ = false := by rw [Below.frozen l1 (p := ⟨w.heap.size + 1, 0, none⟩) B1.lt]; exact F1
    replace B1 := B1.later l1
    replace B0 := B0.later l1
    have L1 := W0.trans l1
    replace o1 := own_mono o1 hmono
    have c1 := B1.cell
    have c0 := B0.cell
    have t1 := B1.lt
    have t0 := B0.lt
    clear F1 hmono W0 R l1
    go_wp2_with fail
    have W1 := later1 w1 (.cells #[.slice av zs.length pv] 25)
    have B10 := Box.new w1 (.slice av zs.length pv) 25
    replace B1 := B1.later W1
    replace B0 := B0.later W1
    replace L1 := L1.trans W1
    replace o1 := later_own o1 W1
    have F1'' : (w1.alloc (.cells #[.slice av zs.length pv] 25)).frozen? ⟨w.heap.size + 1, 0, none⟩ = false := by rw [Below.frozen W1 (p := ⟨w.heap.size + 1, 0, none⟩) t1]; exact F1'
    clear F1'
    refine (range_any _ _ _ (F : Int) (M : Int) _ hs' hf.1 hf.2).mono ?_
    rintro e w2 ⟨rfl, l2⟩
    rw [e1]
    have F2 : w2.frozen? ⟨w.heap.size + 1, 0, none⟩ = false := by rw [Below.frozen l2 (p := ⟨w.heap.size + 1, 0, none⟩) B1.lt]; exact F1''
    replace B1 := B1.later l2
    replace B0 := B0.later l2
    replace B10 := B10.later l2
    replace L1 := L1.trans l2
    replace o1 := later_own o1 l2
    replace c1 := B1.cell
    replace c0 := B0.cell
    have c10_2 := B10.cell
    have u1_2 := B1.lt
    have u10_2 := B10.lt
    clear l2 F1''
    clear W1
    generalize w1.heap.size = b10 at *
    go_wp2_with fail
    refine (range_any _ _ _ (T : Int) (M : Int) _ hs' ht.1 ht.2).mono ?_
    rintro e w3 ⟨rfl, l3⟩
    rw [e3]
    have F3 : w3.frozen? ⟨w.heap.size + 1, 0, none⟩ = false := by rw [Below.frozen l3 (p := ⟨w.heap.size + 1, 0, none⟩) B1.lt]; exact F2
    replace B1 := B1.later l3
    replace B0 := B0.later l3
    replace B10 := B10.later l3
    replace L1 := L1.trans l3
    replace o1 := later_own o1 l3
    replace c1 := B1.cell
    replace c0 := B0.cell
    have c10_3 := B10.cell
    have u1_3 := B1.lt
    have u10_3 := B10.lt
    clear l3 F2
    clear c10_2
    skip
    go_wp2_with fail
    have hL : (zs.length : Int) ≤ 1048576 := hs'
    have hsrc : ∀ j, j < zs.length → ∃ gs off, some y = some (⟨gs, off, none⟩ : Addr) ∧ gs < w.heap.size ∧ w.cell? ⟨gs, off + j, none⟩ = some (.int .i64 (zs.getD j 0)) := hrd
    have hcp0 : cp zs F T 0 = zs := by unfold cp; simp
    clear hrd h e1 e3 c0 c1 c10_3 u1_2 u10_2 t0 t1
    go_loopw [11] (fun ii wr => ∃ k : Nat, ii = .int .i64 (k : Int) ∧ k ≤ M ∧ Box wr w.heap.size (.slice (some y) zs.length cap) ∧ Box wr (w.heap.size + 1) (.slice none 0 0) ∧ wr.frozen? ⟨w.heap.size + 1, 0, none⟩ = false ∧ Box wr b10 (.slice av zs.length pv) ∧
      wr.ownsRow (w.heap.size + 2) 3 1 (.slice av zs.length pv) zs.length ((cp zs F T k).map (Value.int .i64)) ∧ Later w wr ∧ (∀ g, (Value.slice av zs.length pv).ownBlock = some g → g < b10)) (fun ii _ => M - (intOf ii).toNat)
    case atStart => exact ⟨0, rfl, Nat.zero_le _, B0, B1, F3, B10, by rw [hcp0]; exact o1, L1, hgb⟩
    case round =>
      obtain ⟨k, rfl, hk, B0, B1, F1, B10, o1, L1, hgb⟩ := hrel
      have c0 := B0.cell
      have c1 := B1.cell
      have c10 := B10.cell
      by_cases hlt : k < M
      · have hki : (k : Int) < (M : Int) := by omega
        rcases own_cases o1 with ⟨_, hn0, _⟩ | ⟨g, pv', ev, hg1, hg2, _⟩
        · omega
        cases ev
        obtain ⟨gs, off, ey, hgs, hcs⟩ := hsrc (F + k) (by omega)
        cases ey
        have hgb' := hgb g rfl
        have hcr : wr.cell? ⟨gs, off + (F + k), none⟩ = some (.int .i64 (zs.getD (F + k) 0)) := by rw [Below.cell L1 (p := ⟨gs, off + (F + k), none⟩) hgs]; exact hcs
        have hcw : wr.cell? ⟨g, T + k, none⟩ = some (.int .i64 ((cp zs F T k).getD (T + k) 0)) := by
          have hl2 := cp_len (zs := zs) (f := F) (t := T) (k := k) (by omega) (by omega)
          rw [o1.cellAt _ (by omega), List.getElem?_map, List.getElem?_eq_getElem (by omega), List.getD_eq_getElem?_getD, List.getElem?_eq_getElem (by omega)]; rfl
        have hfw := o1.frozenAt (T + k)
        have hst := (o1.stored (T + k) (.int .i64 (zs.getD (F + k) 0))).1
        rw [← List.map_set, cp_step (by omega) (by omega)] at hst
        generalize zs.getD (F + k) 0 = z at *
        generalize (cp zs F T k).getD (T + k) 0 = z' at *
        have b1 : ((F : Int) + (k : Int)).toNat = F + k := by omega
        have b2 : ((T : Int) + (k : Int)).toNat = T + k := by omega
        have b3 : (F : Int) + (k : Int) < (zs.length : Int) := by omega
        have b4 : (T : Int) + (k : Int) < (zs.length : Int) := by omega
        clear o1 hsrc hcs
        go_wp2
        go_region
        have X0 := B0.far (c := g) (o := T + k) (.int .i64 z) (by omega)
        have X1 := B1.far (c := g) (o := T + k) (.int .i64 z) (by omega)
        have X10 := B10.far (c := g) (o := T + k) (.int .i64 z) (by omega)
        have XF : (wr.setCell ⟨g, T + k, none⟩ (.int .i64 z)).frozen? ⟨w.heap.size + 1, 0, none⟩ = false := by rw [World.frozen?_setCell]; exact F1
        have XL : Later w (wr.setCell ⟨g, T + k, none⟩ (.int .i64 z)) := Below.setCell L1 (by show w.heap.size ≤ g; omega) _
        go_wp2
        go_roundw
        case rel => exact ⟨k + 1, by go_num, by omega, ⟨X0.cell, X0.lt⟩, ⟨X1.cell, X1.lt⟩, XF, ⟨X10.cell, X10.lt⟩, hst, XL.trans (Later.drew _), hgb⟩
        case measure => simp [intOf]; omega
      · have hlt' : decide ((k : Int) < (M : Int)) = false := by simp; omega
        have hkm : k = M := by omega
        subst hkm
        have u1 := B1.lt
        have u10 := B10.lt
        go_wp2
        have BR := B1.set (.slice av zs.length pv)
        have cr := BR.cell
        refine bodyPost_ret (v := .tuple #[.agg #[.slice av zs.length pv], .bool true]) (by simp [results, Tryd.results21, go_sem, cr]) rfl ⟨_, rfl, ?_, ?_⟩
        · exact own_mono (ownsRow_setCell_below o1 (by simp) _) (by omega)
        · exact Below.setCell L1 (by simp) _

end Go.Proofs.YtfmfkfijlfeimaaDoor
