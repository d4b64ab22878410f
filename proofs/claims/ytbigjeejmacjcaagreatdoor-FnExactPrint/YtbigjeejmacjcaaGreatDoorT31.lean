/- A text under way: bytes of the call's own, and what is put behind them. -/
import Derived.Test.YtbigjeejmacjcaaGreatDoorT30
import Derived.Lib.AppendStr
namespace Go.Proofs.YtbigjeejmacjcaaGreatDoor
open Go.RowKit Go.Lib

/-- Whatever is no row of bytes is as it was. -/
def K8 (A w : World) : Prop := A.heap.size ≤ w.heap.size ∧ ∀ (k : Nat) (C : Array Value) (t : TypeId) (fz : Nat × Nat), A.heap[k]? = some (.cells C t fz) → t ≠ 5 → w.heap[k]? = A.heap[k]?
theorem K8.refl (w : World) : K8 w w := ⟨Nat.le_refl _, fun _ _ _ _ _ _ => rfl⟩
theorem K8.trans {a b c : World} (h : K8 a b) (g : K8 b c) : K8 a c := ⟨Nat.le_trans h.1 g.1, fun k C t fz hk ht => by
  have e := h.2 k C t fz hk ht
  rw [g.2 k C t fz (by rw [e]; exact hk) ht, e]⟩
theorem lt_of_some {w : World} {k : Nat} {o : Obj} (h : w.heap[k]? = some o) : k < w.heap.size := by
  rcases Nat.lt_or_ge k w.heap.size with h' | h'
  · exact h'
  · rw [Array.getElem?_eq_none h'] at h; cases h
theorem Later.k8 {a b : World} (h : Later a b) : K8 a b := ⟨h.size, fun k _ _ _ hk _ => h.block k (lt_of_some hk)⟩
theorem K8.grown {w w' : World} {base n : Nat} {v : Value} {xs : List Value} (o : w.ownsRow base 5 1 v n xs) (g : w.grownBy w' v.ownBlock) : K8 w w' := ⟨g.size, fun k C t fz hk ht => g.block k (lt_of_some hk) (fun e => by
  rcases o.2 with ⟨rfl, _⟩ | ⟨b, cap, cur, rfl, _, hb, _⟩
  · cases e
  · cases e
    rw [hk] at hb
    cases hb
    exact ht rfl)⟩
/-- A row of bytes made since W, holding zs; whatever was there in W is as it was, and since A whatever is no row of bytes. -/
structure Bf (A W w : World) (v : Value) (zs : List Int) : Prop where
  own : w.ownsRow W.heap.size 5 1 v zs.length (zs.map (Value.int .u8))
  lat : Later W w
  k8 : K8 A w
def SayP (A W : World) (zs : List Int) (e : Ending) (w' : World) : Prop := ∃ v, e = .returned v ∧ Bf A W w' v zs
theorem Bf.put {A W w w' : World} {v v' : Value} {zs ts : List Int} {n : Nat} {X : List Value} (h : Bf A W w v zs) (o : w'.ownsRow W.heap.size 5 1 v' (zs.length + n) (zs.map (Value.int .u8) ++ X)) (hn : n = ts.length) (hX : X = ts.map (Value.int .u8)) (g : w.grownBy w' v.ownBlock) : Bf A W w' v' (zs ++ ts) := by
  subst hn hX
  refine ⟨by rw [List.length_append, List.map_append]; exact o, h.2.trans' g (own_lt_b h.1), h.3.trans (K8.grown h.1 g)⟩
theorem Bf.later {A W w w' : World} {v : Value} {zs : List Int} (h : Bf A W w v zs) (hl : Later w w') : Bf A W w' v zs := ⟨later_ownb h.1 hl, h.2.trans hl, h.3.trans hl.k8⟩
theorem Bf.alloc {A W w : World} {v : Value} {zs : List Int} (h : Bf A W w v zs) (b : Obj) : Bf A W (w.alloc b) v zs := h.later (later1 _ _)
theorem Bf.from {A W w : World} {v : Value} {zs : List Int} (h : Bf A W w v zs) : Bf w W w v zs := ⟨h.1, h.2, K8.refl _⟩
theorem Bf.back {A B W w : World} {v : Value} {zs : List Int} (h : Bf B W w v zs) (k : K8 A B) : Bf A W w v zs := ⟨h.1, h.2, k.trans h.3⟩
theorem Bf.shape {A W w : World} {v : Value} {zs : List Int} (h : Bf A W w v zs) : ∃ a cap, v = .slice a zs.length cap := by
  rcases h.1.2 with ⟨rfl, h0⟩ | ⟨g, cap, _, rfl, _⟩
  · exact ⟨_, _, by rw [h0]⟩
  · exact ⟨_, _, rfl⟩

set_option maxRecDepth 20000 in
set_option maxHeartbeats 1000000 in
theorem sayTy_1 (A W w : World) (v : Value) (zs : List Int) (l : List Sc) (n : Int) (sv : Value) (h : Bf A W w v zs) (hb : zs.length ≤ 1000000) :
    Calls Tryz.prog 29 #[v, .agg #[.int .i64 1, .int .i64 n], sv] w (SayP A W (zs ++ sayTy l 1 n)) := by
  obtain ⟨i0, hi, hz0, hz1, hz2⟩ := info_parts Tryz.info5
  obtain ⟨a, cap, rfl⟩ := h.shape
  have hB := h.alloc (.cells #[.int .i64 1, .int .i64 n] 55)
  have o1 := hB.1
  have hs := hB.2.size
  have HF : Hid (∀ v' w', Bf A W w' v' (zs ++ sayTy l 1 n) → SayP A W (zs ++ sayTy l 1 n) (.returned v') w') := fun v' w' h => ⟨v', rfl, h⟩
  generalize hQ : SayP A W (zs ++ sayTy l 1 n) = Q
  rw [hQ] at HF
  go_enter Tryz.func29, Tryz.ntmps29
  go_wp2_with (at_builtin; refine Go.Lib.wpList_append_own_string _ rfl _ _ 27 9 rfl W.heap.size 5 i0 Tryz.underlying27 Tryz.underlying9 hi hz0 hz1 hz2 (.slice a zs.length cap) _ _ rfl o1 _ rfl (by show zs.length + 4 ≤ maxLen; unfold maxLen; omega) (by show zs.length + 4 ≤ _; omega) hs ?_; intro v3 w3 o3 g3 _)
  exact HF.out _ _ (hB.put o3 rfl rfl g3)
set_option maxRecDepth 20000 in
set_option maxHeartbeats 1000000 in
theorem sayTy_2 (A W w : World) (v : Value) (zs : List Int) (l : List Sc) (n : Int) (sv : Value) (h : Bf A W w v zs) (hb : zs.length ≤ 1000000) :
    Calls Tryz.prog 29 #[v, .agg #[.int .i64 2, .int .i64 n], sv] w (SayP A W (zs ++ sayTy l 2 n)) := by
  obtain ⟨i0, hi, hz0, hz1, hz2⟩ := info_parts Tryz.info5
  obtain ⟨a, cap, rfl⟩ := h.shape
  have hB := h.alloc (.cells #[.int .i64 2, .int .i64 n] 55)
  have o1 := hB.1
  have hs := hB.2.size
  have HF : Hid (∀ v' w', Bf A W w' v' (zs ++ sayTy l 2 n) → SayP A W (zs ++ sayTy l 2 n) (.returned v') w') := fun v' w' h => ⟨v', rfl, h⟩
  generalize hQ : SayP A W (zs ++ sayTy l 2 n) = Q
  rw [hQ] at HF
  go_enter Tryz.func29, Tryz.ntmps29
  go_wp2_with (at_builtin; refine Go.Lib.wpList_append_own_string _ rfl _ _ 27 9 rfl W.heap.size 5 i0 Tryz.underlying27 Tryz.underlying9 hi hz0 hz1 hz2 (.slice a zs.length cap) _ _ rfl o1 _ rfl (by show zs.length + 6 ≤ maxLen; unfold maxLen; omega) (by show zs.length + 6 ≤ _; omega) hs ?_; intro v3 w3 o3 g3 _)
  exact HF.out _ _ (hB.put o3 rfl rfl g3)
set_option maxRecDepth 20000 in
set_option maxHeartbeats 1000000 in
theorem sayTy_4 (A W w : World) (v : Value) (zs : List Int) (l : List Sc) (n : Int) (sv : Value) (h : Bf A W w v zs) (hb : zs.length ≤ 1000000) :
    Calls Tryz.prog 29 #[v, .agg #[.int .i64 4, .int .i64 n], sv] w (SayP A W (zs ++ sayTy l 4 n)) := by
  obtain ⟨i0, hi, hz0, hz1, hz2⟩ := info_parts Tryz.info5
  obtain ⟨a, cap, rfl⟩ := h.shape
  have hB := h.alloc (.cells #[.int .i64 4, .int .i64 n] 55)
  have o1 := hB.1
  have hs := hB.2.size
  have HF : Hid (∀ v' w', Bf A W w' v' (zs ++ sayTy l 4 n) → SayP A W (zs ++ sayTy l 4 n) (.returned v') w') := fun v' w' h => ⟨v', rfl, h⟩
  generalize hQ : SayP A W (zs ++ sayTy l 4 n) = Q
  rw [hQ] at HF
  go_enter Tryz.func29, Tryz.ntmps29
  go_wp2_with (at_builtin; refine Go.Lib.wpList_append_own_string _ rfl _ _ 27 9 rfl W.heap.size 5 i0 Tryz.underlying27 Tryz.underlying9 hi hz0 hz1 hz2 (.slice a zs.length cap) _ _ rfl o1 _ rfl (by show zs.length + 8 ≤ maxLen; unfold maxLen; omega) (by show zs.length + 8 ≤ _; omega) hs ?_; intro v3 w3 o3 g3 _)
  exact HF.out _ _ (hB.put o3 rfl rfl g3)
set_option maxRecDepth 20000 in
set_option maxHeartbeats 1000000 in
theorem sayTy_5 (A W w : World) (v : Value) (zs : List Int) (l : List Sc) (n : Int) (sv : Value) (h : Bf A W w v zs) (hb : zs.length ≤ 1000000) :
    Calls Tryz.prog 29 #[v, .agg #[.int .i64 5, .int .i64 n], sv] w (SayP A W (zs ++ sayTy l 5 n)) := by
  obtain ⟨i0, hi, hz0, hz1, hz2⟩ := info_parts Tryz.info5
  obtain ⟨a, cap, rfl⟩ := h.shape
  have hB := h.alloc (.cells #[.int .i64 5, .int .i64 n] 55)
  have o1 := hB.1
  have hs := hB.2.size
  have HF : Hid (∀ v' w', Bf A W w' v' (zs ++ sayTy l 5 n) → SayP A W (zs ++ sayTy l 5 n) (.returned v') w') := fun v' w' h => ⟨v', rfl, h⟩
  generalize hQ : SayP A W (zs ++ sayTy l 5 n) = Q
  rw [hQ] at HF
  go_enter Tryz.func29, Tryz.ntmps29
  go_wp2_with (at_builtin; refine Go.Lib.wpList_append_own_string _ rfl _ _ 27 9 rfl W.heap.size 5 i0 Tryz.underlying27 Tryz.underlying9 hi hz0 hz1 hz2 (.slice a zs.length cap) _ _ rfl o1 _ rfl (by show zs.length + 10 ≤ maxLen; unfold maxLen; omega) (by show zs.length + 10 ≤ _; omega) hs ?_; intro v3 w3 o3 g3 _)
  exact HF.out _ _ (hB.put o3 rfl rfl g3)
theorem sayTy_no (A W w : World) (v : Value) (zs : List Int) (l : List Sc) (k n : Int) (sv : Value) (h : Bf A W w v zs) (hk : k ≠ 1 ∧ k ≠ 2 ∧ k ≠ 3 ∧ k ≠ 4 ∧ k ≠ 5 ∧ k ≠ 6) :
    Calls Tryz.prog 29 #[v, .agg #[.int .i64 k, .int .i64 n], sv] w (SayP A W (zs ++ sayTy l k n)) := by
  obtain ⟨n1, n2, n3, n4, n5, n6⟩ := hk
  obtain ⟨a, cap, rfl⟩ := h.shape
  have e : sayTy l k n = [] := by unfold sayTy; rw [if_neg n1, if_neg n2, if_neg n3, if_neg n4, if_neg n5, if_neg n6]
  have hB := h.alloc (.cells #[.int .i64 k, .int .i64 n] 55)
  have m1 : (k == 1) = false := beq_eq_false_iff_ne.2 n1
  have m2 : (k == 2) = false := beq_eq_false_iff_ne.2 n2
  have m3 : (k == 3) = false := beq_eq_false_iff_ne.2 n3
  have m4 : (k == 4) = false := beq_eq_false_iff_ne.2 n4
  have m5 : (k == 5) = false := beq_eq_false_iff_ne.2 n5
  have m6 : (k == 6) = false := beq_eq_false_iff_ne.2 n6
  rw [e, List.append_nil]
  have HF : Hid (∀ v' w', Bf A W w' v' zs → SayP A W zs (.returned v') w') := fun v' w' h => ⟨v', rfl, h⟩
  generalize hQ : SayP A W zs = Q
  rw [hQ] at HF
  clear n1 n2 n3 n4 n5 n6
  go_enter Tryz.func29, Tryz.ntmps29
  go_wp2_with fail
  exact HF.out _ _ hB
end Go.Proofs.YtbigjeejmacjcaaGreatDoor
