/- impl.NewMemory answers as it should. -/
import Derived.Test.YtfmfkfijlfeimaaDoorM3
namespace Go.Proofs.YtfmfkfijlfeimaaDoor
open Go.RowKit

theorem inew_no (n : Int) (w : World) (h : n < 0 ∨ 20000 < n) : Calls Tryd.prog 11 #[.int .i64 n] w fun e w' =>
    e = .returned (.tuple #[.agg #[.slice none 0 0], .bool false]) ∧ Later w w' := by
  have hb := build0
  rcases h with h | h
  · go_enter Tryd.func11, Tryd.ntmps11
    go_wp2
    exact bodyPost_ret (v := .tuple #[.agg #[.slice none 0 0], .bool false]) (by simp [results, Tryd.results11, go_sem]) rfl ⟨rfl, later1 _ _⟩
  · have h' : ¬ n < 0 := by omega
    go_enter Tryd.func11, Tryd.ntmps11
    go_wp2
    exact bodyPost_ret (v := .tuple #[.agg #[.slice none 0 0], .bool false]) (by simp [results, Tryd.results11, go_sem]) rfl ⟨rfl, later1 _ _⟩

theorem inew_yes (n : Nat) (w : World) (h : n ≤ 20000) : Calls Tryd.prog 11 #[.int .i64 (n : Int)] w fun e w' =>
    ∃ v, e = .returned (.tuple #[.agg #[v], .bool true]) ∧ w'.ownsRow w.heap.size 3 1 v n (List.replicate n (Value.int .i64 0)) ∧ Later w w' := by
  have hb := build1
  obtain ⟨i0, hi, hz0, hz1, hz2⟩ := info_parts Tryd.info3
  have h1 : ¬ (n : Int) < 0 := by omega
  have h2 : ¬ (20000 : Int) < (n : Int) := by omega
  go_enter Tryd.func11, Tryd.ntmps11
  go_wp2_with (at_make; refine wpList_make_full _ rfl _ _ 23 rfl (w.alloc (.cells #[.slice none 0 0] 25)).heap.size 3 i0 (.int .i64 0) 1 Tryd.underlying23 hi hz0 hz1 .i64 .i64 _ _ n rfl rfl rfl rfl (by rw [hz2]; omega) (by unfold maxLen; omega) (Nat.le_refl _) ?_; intro w1 hown hgr; have hw := grown_later hgr; obtain ⟨hc1, hf1⟩ := bcell hw; have hz : w.heap.size < w1.heap.size := by have := hw.size; simp at this; omega)
  have e : (madeCells (Value.int .i64 0).cells (n * 1)).toList = List.replicate n (Value.int .i64 0) := by rw [Nat.mul_one]; exact toList_madeCells_one _ _
  rw [e] at hown
  refine bodyPost_ret (v := .tuple #[.agg #[.slice (some ⟨w.heap.size + 1, 0, none⟩) n n], .bool true]) (by simp [results, Tryd.results11, go_sem, hc1]) rfl ⟨_, rfl, ?_, ?_⟩
  · refine own_mono (B := (w.alloc (.cells #[.slice none 0 0] 25)).heap.size) ?_ (by simp)
    have hown' : w1.ownsRow (w.alloc (.cells #[.slice none 0 0] 25)).heap.size 3 1 (.slice (some ⟨w.heap.size + 1, 0, none⟩) n n) n (List.replicate n (Value.int .i64 0)) := by simpa using hown
    exact ownsRow_setCell_below hown' (by simp) _
  · exact (Below.trans (later1 _ _) (Below.mono hw (by simp))).setCell (by simp) _

theorem inew_any : NewC 11 := by
  intro n w
  rcases okN_cases n with ⟨h, e1, e2⟩ | ⟨m, rfl, hm, e1, e2⟩
  · refine (inew_no n w h).mono ?_
    rintro e w' ⟨rfl, hw⟩
    exact ⟨_, by rw [e1], by rw [e2]; exact World.ownsRow_nil _ _ _ _, hw⟩
  · refine (inew_yes m w hm).mono ?_
    rintro e w' ⟨v, rfl, ho, hw⟩
    exact ⟨v, by rw [e1], by rw [e2]; exact ho, hw⟩

end Go.Proofs.YtfmfkfijlfeimaaDoor
