/- A text under way: bytes of the call's own, and what is put behind them. -/
import Derived.Test.YtleakieppapjmaaDoorT30
import Derived.Lib.AppendStr
namespace Go.Proofs.YtleakieppapjmaaDoor
open Go.RowKit Go.Lib

/-- Whatever is no row of bytes is as it was. -/
def K8 (A w : World) : Prop := A.heap.size ≤ w.heap.size ∧ ∀ (k : Nat) (C : Array Value) (t : TypeId) (fz : Nat × Nat), A.heap[k]? = some (.cells C t fz) → t ≠ 5 → w.heap[k]? = A.heap[k]?
theorem K8.refl (w : World) : K8 w w := ⟨Nat.le_refl _, fun _ _ _ _ _ _ => rfl⟩
theorem K8.trans {a b c : World} (h : K8 a b) (g : K8 b c) : K8 a c := ⟨Nat.le_trans h.1 g.1, fun k C t fz hk ht => by
  have e := h.2 k C t fz hk ht
  rw [g.2 k C t fz (by rw [e]; exact hk) ht, e]⟩
theorem lt_of_some {w : World} {k : Nat} {o : Obj} (h : w.heap[k]? = some o) : k < w.heap.size := by
  rcases Nat.lt_or_ge k w.heap.size with h' | h'
  · exact h'
  · rw [Array.getElem?_eq_none h'] at h; cases h
theorem Later.k8 {a b : World} (h : Later a b) : K8 a b := ⟨h.size, fun k _ _ _ hk _ => h.block k (lt_of_some hk)⟩
theorem K8.grown {w w' : World} {base n : Nat} {v : Value} {xs : List Value} (o : w.ownsRow base 5 1 v n xs) (g : w.grownBy w' v.ownBlock) : K8 w w' := ⟨g.size, fun k C t fz hk ht => g.block k (lt_of_some hk) (fun e => by
  rcases o.2 with ⟨rfl, _⟩ | ⟨b, cap, cur, rfl, _, hb, _⟩
  · cases e
  · cases e
    rw [hk] at hb
    cases hb
    exact ht rfl)⟩
/-- A row of bytes made since W, holding zs; whatever was there in W is as it was, and since A whatever is no row of bytes. -/
structure Bf (A W w : World) (v : Value) (zs : List Int) : Prop where
  own : w.ownsRow W.heap.size 5 1 v zs.length (zs.map (Value.int .u8))
  lat : Later W w
  k8 : K8 A w
def SayP (A W : World) (zs : List Int) (e : Ending) (w' : World) : Prop := ∃ v, e = .returned v ∧ Bf A W w' v zs
theorem Bf.put {A W w w' : World} {v v' : Value} {zs ts : List Int} {n : Nat} {X : List Value} (h : Bf A W w v zs) (o : w'.ownsRow W.heap.size 5 1 v' (zs.length + n) (zs.map (Value.int .u8) ++ X)) (hn : n = ts.length) (hX : X = ts.map (Value.int .u8)) (g : w.grownBy w' v.ownBlock) : Bf A W w' v' (zs ++ ts) := by
  subst hn hX
  refine ⟨by rw [List.length_append, List.map_append]; exact o, h.2.trans' g (own_lt_b h.1), h.3.trans (K8.grown h.1 g)⟩
theorem Bf.later {A W w w' : World} {v : Value} {zs : List Int} (h : Bf A W w v zs) (hl : Later w w') : Bf A W w' v zs := ⟨later_ownb h.1 hl, h.2.trans hl, h.3.trans hl.k8⟩
theorem Bf.alloc {A W w : World} {v : Value} {zs : List Int} (h : Bf A W w v zs) (b : Obj) : Bf A W (w.alloc b) v zs := h.later (later1 _ _)
theorem Bf.from {A W w : World} {v : Value} {zs : List Int} (h : Bf A W w v zs) : Bf w W w v zs := ⟨h.1, h.2, K8.refl _⟩
theorem Bf.back {A B W w : World} {v : Value} {zs : List Int} (h : Bf B W w v zs) (k : K8 A B) : Bf A W w v zs := ⟨h.1, h.2, k.trans h.3⟩
theorem Bf.shape {A W w : World} {v : Value} {zs : List Int} (h : Bf A W w v zs) : ∃ a cap, v = .slice a zs.length cap := by
  rcases h.1.2 with ⟨rfl, h0⟩ | ⟨g, cap, _, rfl, _⟩
  · exact ⟨_, _, by rw [h0]⟩
  · exact ⟨_, _, rfl⟩

end Go.Proofs.YtleakieppapjmaaDoor
