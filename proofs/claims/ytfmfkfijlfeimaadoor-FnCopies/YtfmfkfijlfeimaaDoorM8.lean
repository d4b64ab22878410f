/- StoreWord: the model's. -/
import Derived.Test.YtfmfkfijlfeimaaDoorM7
namespace Go.Proofs.YtfmfkfijlfeimaaDoor
open Go.RowKit

def storeL (zs : List Int) (i x : Int) : List Int := if okAt zs i then zs.set i.toNat x else zs
theorem storeL_len (zs : List Int) (i x : Int) : (storeL zs i x).length = zs.length := by unfold storeL; split <;> simp
/-- What StoreWord answers. -/
def StoreC (f : Nat) (v : Value) : Prop := ∀ (zs : List Int) (i x : Int) (w : World), Rd w v zs → zs.length ≤ 1048576 → Calls Tryd.prog f #[.agg #[v], .int .i64 i, .int .i64 x] w fun e w' =>
  ∃ v', e = .returned (.tuple #[.agg #[v'], .bool (okAt zs i)]) ∧ w'.ownsRow w.heap.size 3 1 v' zs.length ((storeL zs i x).map (Value.int .i64)) ∧ Later w w'

/-- What StoreWord answers where variable 0 holds 'ev'. -/
def StoreG (f : Nat) (ev v : Value) : Prop := ∀ (zs : List Int) (i x : Int) (w : World), Box w 0 ev → Rd w v zs → zs.length ≤ 1048576 → InR i → Calls Tryd.prog f #[.agg #[v], .int .i64 i, .int .i64 x] w fun e w' =>
  ∃ v', e = .returned (.tuple #[.agg #[v'], .bool (okAt zs i)]) ∧ w'.ownsRow w.heap.size 3 1 v' zs.length ((storeL zs i x).map (Value.int .i64)) ∧ Later w w'

theorem setCell_size (w : World) (a : Addr) (v : Value) : (w.setCell a v).heap.size = w.heap.size := by simp [World.setCell]
theorem Box.set {w : World} {b : Nat} {u : Value} (h : Box w b u) (v : Value) : Box (w.setCell ⟨b, 0, none⟩ v) b v := ⟨set_same h.cell, by rw [setCell_size]; exact h.lt⟩
theorem Box.far {w : World} {b c o : Nat} {u : Value} (h : Box w b u) (v : Value) (hn : b ≠ c) : Box (w.setCell ⟨c, o, none⟩ v) b u := ⟨by rw [set_block _ _ _ _ hn]; exact h.cell, by rw [setCell_size]; exact h.lt⟩

set_option maxHeartbeats 400000 in
theorem sstore_any (y : Addr) (len cap : Nat) : StoreC 18 (.slice (some y) len cap) := by
  intro zs i x w h hs
  obtain ⟨_, _, e, _, _⟩ := id h
  cases e
  have W0 := later2 w (.cells #[.slice (some y) zs.length cap] 25) (.cells #[.slice none 0 0] 25)
  have R := h.later W0
  rcases okAt_cases zs i with ⟨ho, e1, _⟩ | ⟨h0, h1, e1, _⟩
  · have e2 : storeL zs i x = zs := by unfold storeL; rw [e1]; rfl
    rw [e1, e2]
    clear e1 e2
    have hcase : i < 0 ∨ (¬ i < 0 ∧ (zs.length : Int) ≤ i) := by omega
    rcases hcase with h | ⟨h, h'⟩
    all_goals
      go_enter Tryd.func18, Tryd.ntmps18
      go_wp2_with fail
      have B1 : Box ((w.alloc (.cells #[.slice (some y) zs.length cap] 25)).alloc (.cells #[.slice none 0 0] 25)) (w.heap.size + 1) (.slice none 0 0) := ⟨by simp, by simp⟩
      have F1 : ((w.alloc (.cells #[.slice (some y) zs.length cap] 25)).alloc (.cells #[.slice none 0 0] 25)).frozen? ⟨w.heap.size + 1, 0, none⟩ = false := by simp
      have B0 : Box ((w.alloc (.cells #[.slice (some y) zs.length cap] 25)).alloc (.cells #[.slice none 0 0] 25)) w.heap.size (.slice (some y) zs.length cap) := ⟨by simp, by simp; omega⟩
      refine (scopy_any _ _ zs _ hs R).mono ?_
      rintro e w1 ⟨v, rfl, o1, l1⟩
      obtain ⟨av, pv, rfl⟩ := own_slice o1
      have F1' : w1.frozen? ⟨w.heap.size + 1, 0, none⟩ = false := by rw [Below.frozen l1 (p := ⟨w.heap.size + 1, 0, none⟩) B1.lt]; exact F1
      replace B1 := B1.later l1
      replace B0 := B0.later l1
      have L1 := W0.trans l1
      have c1 := B1.cell
      have c0 := B0.cell
      have t1 := B1.lt
      have t0 := B0.lt
      have hmono : w.heap.size + 2 ≤ ((w.alloc (.cells #[.slice (some y) zs.length cap] 25)).alloc (.cells #[.slice none 0 0] 25)).heap.size := by simp
      replace o1 := own_mono o1 hmono
      clear F1 hmono W0 R l1
      go_wp2_with fail
      have BR := (B1.set (.slice av zs.length pv)).later (later1 _ (.cells #[.slice av zs.length pv] 25))
      have cr := BR.cell
      refine bodyPost_ret (v := .tuple #[.agg #[.slice av zs.length pv], .bool false]) (by simp [results, Tryd.results18, go_sem, cr]) rfl ⟨_, rfl, ?_, ?_⟩
      · exact (own_mono (ownsRow_setCell_below o1 (by simp) _) (by omega)).alloc _
      · exact (Below.setCell L1 (by simp) _).alloc (by rw [setCell_size]; omega) _
  · have e2 : storeL zs i x = zs.set i.toNat x := by unfold storeL; rw [e1]; rfl
    rw [e1, e2]
    clear e1 e2
    have h0' : ¬ i < 0 := by omega
    have h1' : ¬ (zs.length : Int) ≤ i := by omega
    go_enter Tryd.func18, Tryd.ntmps18
    go_wp2_with fail
    have B1 : Box ((w.alloc (.cells #[.slice (some y) zs.length cap] 25)).alloc (.cells #[.slice none 0 0] 25)) (w.heap.size + 1) (.slice none 0 0) := ⟨by simp, by simp⟩
    have F1 : ((w.alloc (.cells #[.slice (some y) zs.length cap] 25)).alloc (.cells #[.slice none 0 0] 25)).frozen? ⟨w.heap.size + 1, 0, none⟩ = false := by simp
    have B0 : Box ((w.alloc (.cells #[.slice (some y) zs.length cap] 25)).alloc (.cells #[.slice none 0 0] 25)) w.heap.size (.slice (some y) zs.length cap) := ⟨by simp, by simp; omega⟩
    refine (scopy_any _ _ zs _ hs R).mono ?_
    rintro e w1 ⟨v, rfl, o1, l1⟩
    rcases own_cases o1 with ⟨_, hn0, _⟩ | ⟨g, pv, rfl, hg1, hg2, _⟩
    · omega
    have F1' : w1.frozen? ⟨w.heap.size + 1, 0, none⟩ = false := by rw [Below.frozen l1 (p := ⟨w.heap.size + 1, 0, none⟩) B1.lt]; exact F1
    replace B1 := B1.later l1
    replace B0 := B0.later l1
    have L1 := W0.trans l1
    have c1 := B1.cell
    have c0 := B0.cell
    have t1 := B1.lt
    have t0 := B0.lt
    have hmono : w.heap.size + 2 ≤ ((w.alloc (.cells #[.slice (some y) zs.length cap] 25)).alloc (.cells #[.slice none 0 0] 25)).heap.size := by simp
    replace o1 := own_mono o1 hmono
    replace hg1 := Nat.le_trans hmono hg1
    have hcw : w1.cell? ⟨g, i.toNat, none⟩ = some (.int .i64 (zs.getD i.toNat 0)) := by
      rw [o1.cellAt _ (by omega), List.getElem?_map, List.getElem?_eq_getElem (by omega), List.getD_eq_getElem?_getD, List.getElem?_eq_getElem (by omega)]; rfl
    have hfw := o1.frozenAt i.toNat
    clear F1 hmono W0 R l1
    go_wp2_with fail
    have BR := ((B1.far (o := i.toNat) (c := g) (.int .i64 x) (by omega)).set (.slice (some ⟨g, 0, none⟩) zs.length pv)).later (later1 _ (.cells #[.slice (some ⟨g, 0, none⟩) zs.length pv] 25))
    have cr := BR.cell
    have os := (o1.stored i.toNat (.int .i64 x)).1
    refine bodyPost_ret (v := .tuple #[.agg #[.slice (some ⟨g, 0, none⟩) zs.length pv], .bool true]) (by simp [results, Tryd.results18, go_sem, cr]) rfl ⟨_, rfl, ?_, ?_⟩
    · rw [List.map_set]
      exact (own_mono (ownsRow_setCell_below os (by simp) _) (by omega)).alloc _
    · exact (Below.setCell (Below.setCell L1 (by show w.heap.size ≤ g; omega) _) (by simp) _).alloc (by rw [setCell_size, setCell_size]; omega) _

end Go.Proofs.YtfmfkfijlfeimaaDoor
