/- l2copy and StoreWord: the model's. -/
import Derived.Test.YtfmfkfijlfeimaaDoorM6
namespace Go.Proofs.YtfmfkfijlfeimaaDoor
open Go.RowKit

theorem gcell {W w1 : World} {g : Nat} (h : W.grownBy w1 (some g)) {b : Nat} (hb : b < W.heap.size) (hn : b ≠ g) (o : Nat) :
    w1.cell? ⟨b, o, none⟩ = W.cell? ⟨b, o, none⟩ ∧ w1.frozen? ⟨b, o, none⟩ = W.frozen? ⟨b, o, none⟩ := by
  have e := h.block b hb (by simpa using hn)
  exact ⟨World.cell?_of_block (a := ⟨b, o, none⟩) e, World.frozen?_of_block (a := ⟨b, o, none⟩) e⟩

theorem rd_news {w : World} {x : Addr} {cap : Nat} {zs : List Int} (h : Rd w (.slice (some x) zs.length cap) zs) :
    ∀ j u, (zs.map (Value.int .i64))[j]? = some u → w.cell? (x.add j) = some u := by
  intro j u hj
  obtain ⟨a, c, e, _, hc⟩ := h
  cases e
  rw [List.getElem?_map] at hj
  have hlt : j < zs.length := by
    rcases Nat.lt_or_ge j zs.length with l | l
    · exact l
    · rw [List.getElem?_eq_none l] at hj; cases hj
  obtain ⟨g, off, e, hg, hv⟩ := hc j hlt
  cases e
  rw [List.getElem?_eq_getElem hlt] at hj
  rw [List.getD_eq_getElem?_getD, List.getElem?_eq_getElem hlt] at hv
  cases hj
  rw [Go.WideShapes.add_plain]
  exact hv

set_option maxHeartbeats 400000 in
theorem scopy_any (x : Addr) (cap : Nat) (zs : List Int) (w : World) (hs : zs.length ≤ 1048576) (h : Rd w (.slice (some x) zs.length cap) zs) :
    Calls Tryd.prog 34 #[.agg #[.slice (some x) zs.length cap]] w fun e w' => ∃ v, e = .returned (.agg #[v]) ∧ w'.ownsRow w.heap.size 3 1 v zs.length (zs.map (Value.int .i64)) ∧ Later w w' := by
  obtain ⟨i0, hi, hz0, hz1, hz2⟩ := info_parts Tryd.info3
  have hb := build1
  obtain ⟨W, hW⟩ : ∃ W, W = ((w.alloc (.cells #[.slice (some x) zs.length cap] 25)).alloc (.cells #[.slice none 0 0] 25)).alloc (.cells #[] 3) := ⟨_, rfl⟩
  have LW : Later w W := by rw [hW]; exact later3 _ _ _ _
  have hsW : W.heap.size = w.heap.size + 3 := by rw [hW]; simp
  have hown : W.ownsRow (w.heap.size + 2) 3 1 (.slice (some ⟨w.heap.size + 1 + 1, 0, none⟩) 0 0) 0 [] := by
    have := World.ownsRow_lit (base := w.heap.size + 2) (e := 3) (size := 1) ((w.alloc (.cells #[.slice (some x) zs.length cap] 25)).alloc (.cells #[.slice none 0 0] 25)) #[] 0 (by simp) (by unfold maxLen; omega) rfl
    rw [hW]
    simpa using this
  have hnw := rd_news (h.later LW)
  rw [hW] at hown hnw
  go_enter Tryd.func34, Tryd.ntmps34
  go_wp2_with (at_builtin; go_must (refine wpList_append_own _ rfl _ _ 23 rfl (w.heap.size + 2) 3 i0 (.int .i64 0) 1 8 Tryd.underlying23 hi hz0 hz1 hz2 rfl (by decide) _ _ _ rfl hown x zs.length cap (zs.map (Value.int .i64)) rfl (by simp) hnw (ints_oneCell _ _) (by unfold maxLen; omega) (by omega) (by simp) ?_); intro v w1 ho hg _; obtain ⟨av, pv, rfl⟩ := own_slice ho; obtain ⟨hcr, hfr⟩ := gcell (b := w.heap.size + 1) (g := w.heap.size + 1 + 1) hg (by simp) (by omega) 0; have hz := hg.size)
  rw [Nat.zero_add, List.nil_append] at ho
  refine bodyPost_ret (v := .agg #[.slice av (0 + zs.length) pv]) (by simp [results, Tryd.results34, go_sem, hcr]) rfl ⟨_, rfl, ?_, ?_⟩
  · rw [Nat.zero_add]
    exact own_mono (ownsRow_setCell_below ho (by simp) _) (by omega)
  · have hb : Below w.heap.size w w1 := Below.trans (later3 _ _ _ _) (Below.grown (Below.refl _ _) hg (by simp; omega) (fun k hk => by cases hk; show w.heap.size ≤ w.heap.size + 1 + 1; omega))
    exact hb.setCell (by simp) _

end Go.Proofs.YtfmfkfijlfeimaaDoor
