/- Bytes under way; numbers of two bytes. -/
import Derived.Test.YtlfkjjnhlkaipaaJ6
import Derived.Test.YtlfkjjnhlkaipaaK6
import Derived.Lib.AppendStr
import Derived.Lib.SlBytesConst
import Derived.ArgAppend
namespace Go.Proofs.Ytlfkjjnhlkaipaa
open Go.RowKit Go.Lib

/-- Whatever is no row of bytes is as it was. -/
def K8 (A w : World) : Prop := A.heap.size ≤ w.heap.size ∧ ∀ (k : Nat) (C : Array Value) (t : TypeId) (fz : Nat × Nat), A.heap[k]? = some (.cells C t fz) → t ≠ 5 → w.heap[k]? = A.heap[k]?
theorem K8.refl (w : World) : K8 w w := ⟨Nat.le_refl _, fun _ _ _ _ _ _ => rfl⟩
theorem K8.trans {a b c : World} (h : K8 a b) (g : K8 b c) : K8 a c := ⟨Nat.le_trans h.1 g.1, fun k C t fz hk ht => by
  have e := h.2 k C t fz hk ht
  rw [g.2 k C t fz (by rw [e]; exact hk) ht, e]⟩
theorem lt_of_some {w : World} {k : Nat} {o : Obj} (h : w.heap[k]? = some o) : k < w.heap.size := by
  rcases Nat.lt_or_ge k w.heap.size with h' | h'
  · exact h'
  · rw [Array.getElem?_eq_none h'] at h; cases h
theorem Later.k8 {a b : World} (h : Later a b) : K8 a b := ⟨h.size, fun k _ _ _ hk _ => h.block k (lt_of_some hk)⟩
theorem K8.grown {w w' : World} {base n : Nat} {v : Value} {xs : List Value} (o : w.ownsRow base 5 1 v n xs) (g : w.grownBy w' v.ownBlock) : K8 w w' := ⟨g.size, fun k C t fz hk ht => g.block k (lt_of_some hk) (fun e => by
  rcases o.2 with ⟨rfl, _⟩ | ⟨b, cap, cur, rfl, _, hb, _⟩
  · cases e
  · cases e
    rw [hk] at hb
    cases hb
    exact ht rfl)⟩
/-- A row of bytes made since W, holding zs; whatever was there in W is as it was, and since A whatever is no row of bytes. -/
structure Bf (A W w : World) (v : Value) (zs : List Int) : Prop where
  own : w.ownsRow W.heap.size 5 1 v zs.length (zs.map (Value.int .u8))
  lat : Later W w
  k8 : K8 A w
def SayP (A W : World) (zs : List Int) (e : Ending) (w' : World) : Prop := ∃ v, e = .returned v ∧ Bf A W w' v zs
theorem Bf.put {A W w w' : World} {v v' : Value} {zs ts : List Int} {n : Nat} {X : List Value} (h : Bf A W w v zs) (o : w'.ownsRow W.heap.size 5 1 v' (zs.length + n) (zs.map (Value.int .u8) ++ X)) (hn : n = ts.length) (hX : X = ts.map (Value.int .u8)) (g : w.grownBy w' v.ownBlock) : Bf A W w' v' (zs ++ ts) := by
  subst hn hX
  refine ⟨by rw [List.length_append, List.map_append]; exact o, h.2.trans' g (own_lt_b h.1), h.3.trans (K8.grown h.1 g)⟩
theorem Bf.later {A W w w' : World} {v : Value} {zs : List Int} (h : Bf A W w v zs) (hl : Later w w') : Bf A W w' v zs := ⟨later_ownb h.1 hl, h.2.trans hl, h.3.trans hl.k8⟩
theorem Bf.alloc {A W w : World} {v : Value} {zs : List Int} (h : Bf A W w v zs) (b : Obj) : Bf A W (w.alloc b) v zs := h.later (later1 _ _)
theorem Bf.from {A W w : World} {v : Value} {zs : List Int} (h : Bf A W w v zs) : Bf w W w v zs := ⟨h.1, h.2, K8.refl _⟩
theorem Bf.back {A B W w : World} {v : Value} {zs : List Int} (h : Bf B W w v zs) (k : K8 A B) : Bf A W w v zs := ⟨h.1, h.2, k.trans h.3⟩
theorem Bf.shape {A W w : World} {v : Value} {zs : List Int} (h : Bf A W w v zs) : ∃ a cap, v = .slice a zs.length cap := by
  rcases h.1.2 with ⟨rfl, h0⟩ | ⟨g, cap, _, rfl, _⟩
  · exact ⟨_, _, by rw [h0]⟩
  · exact ⟨_, _, rfl⟩

/-- A number in two bytes, low first. -/
def twoL (n : Int) : List Int := [n % 256, n / 256]
theorem new_row (w : World) (cs : Array Value) (t : TypeId) {g : Nat} (hg : g = w.heap.size) : ∀ j x, cs.toList[j]? = some x → (w.alloc (.cells cs t)).cell? ((⟨g, 0, none⟩ : Addr).add j) = some x := by
  intro j x h
  subst hg
  have h' : cs[j]? = some x := by simpa using h
  rw [Addr.add_lit, Nat.zero_add]
  have e : (w.alloc (.cells cs t)).heap[w.heap.size]? = some (.cells cs t) := (MapKept.heap_alloc w _).1
  unfold World.cell?
  simp only [e]
  exact h'
set_option maxRecDepth 20000 in
set_option maxHeartbeats 1000000 in
theorem two_any (A W w : World) (v : Value) (zs : List Int) (n : Int) (h : Bf A W w v zs) (hn : 0 ≤ n ∧ n < 65536) (hb : zs.length ≤ 1000000000) :
    Calls Try.prog 69 #[v, .int .i64 n] w (SayP A W (zs ++ twoL n)) := by
  obtain ⟨a, cap, rfl⟩ := h.shape
  obtain ⟨i0, hi, hz0, hz1, hz2⟩ := info_parts Try.info5
  have m1 : 0 ≤ n % 256 ∧ n % 256 < 256 := by omega
  have m2 : 0 ≤ n / 256 ∧ n / 256 < 256 := by omega
  have hB := h.alloc (.cells #[.int .u8 (n % 256), .int .u8 (n / 256)] 5)
  have o1 := hB.1
  have hs := hB.2.size
  have HF : Hid (∀ v' w', Bf A W w' v' (zs ++ twoL n) → SayP A W (zs ++ twoL n) (.returned v') w') := fun v' w' h => ⟨v', rfl, h⟩
  generalize hQ : SayP A W (zs ++ twoL n) = Q
  rw [hQ] at HF
  go_enter Try.func69, Try.ntmps69
  go_wp2_with (at_builtin; refine wpList_append_own_at _ rfl _ _ 22 rfl W.heap.size 5 i0 (.int .u8 0) 1 1 Try.underlying22 hi hz0 hz1 hz2 rfl (by decide) (.slice a zs.length cap) _ _ rfl o1 _ 2 2 [.int .u8 (n % 256), .int .u8 (n / 256)] rfl rfl (new_row _ _ _ (by simp)) (by simp [Value.oneCell']) (by unfold maxLen; omega) (by omega) hs ?_; intro v3 w3 o3 g3 _ _)
  exact HF.out _ _ (hB.put o3 rfl rfl g3)
theorem cells2 {wr : World} {g : Nat} {p q : Value} (hc0 : wr.cell? ⟨g, 0, none⟩ = some p) (hc1 : wr.cell? ⟨g, 1, none⟩ = some q) (o : Obj) : ∀ b, some (⟨g, 0, none⟩ : Addr) = some b → ∀ j u, [p, q][j]? = some u → (wr.alloc o).cell? (b.add j) = some u := by
  intro b hb j u hj
  cases hb
  match j with
  | 0 =>
    have e : p = u := by simpa using hj
    rw [Addr.add_lit, ← e]
    exact cell?_alloc_marked o hc0
  | 1 =>
    have e : q = u := by simpa using hj
    rw [Addr.add_lit, ← e]
    exact cell?_alloc_marked o hc1
  | j + 2 => simp at hj
set_option maxRecDepth 20000 in
set_option maxHeartbeats 1000000 in
theorem two_new (A W w : World) (g : Nat) (n : Int) (hla : Later W w) (hk8 : K8 A w) (hc0 : w.cell? ⟨g, 0, none⟩ = some (.int .u8 71)) (hc1 : w.cell? ⟨g, 1, none⟩ = some (.int .u8 73)) (hn : 0 ≤ n ∧ n < 65536) :
    Calls Try.prog 69 #[.slice (some ⟨g, 0, none⟩) 2 2, .int .i64 n] w (SayP A W ([71, 73] ++ twoL n)) := by
  obtain ⟨i0, hi, hz0, hz1, hz2⟩ := info_parts Try.info5
  have m1 : 0 ≤ n % 256 ∧ n % 256 < 256 := by omega
  have m2 : 0 ≤ n / 256 ∧ n / 256 < 256 := by omega
  have hs := hla.size
  have HF : Hid (∀ v' w', Bf A W w' v' ([71, 73] ++ twoL n) → SayP A W ([71, 73] ++ twoL n) (.returned v') w') := fun v' w' h => ⟨v', rfl, h⟩
  generalize hQ : SayP A W ([71, 73] ++ twoL n) = Q
  rw [hQ] at HF
  go_enter Try.func69, Try.ntmps69
  go_wp2_with (at_builtin; refine wpList_append_grows _ rfl _ _ 22 rfl 5 i0 (.int .u8 0) 1 1 Try.underlying22 hi hz0 hz1 hz2 rfl (by decide) _ 2 2 [.int .u8 71, .int .u8 73] rfl (fun h => by cases h) rfl (cells2 hc0 hc1 _) ⟨w.heap.size, 0, none⟩ 2 2 [.int .u8 (n % 256), .int .u8 (n / 256)] rfl rfl (new_row _ _ _ (by simp)) (by simp [Value.oneCell']) (by decide) (by decide) (by decide) ?_; intro v3 w3 o3 g3)
  exact HF.out _ _ ⟨own_monob o3 (by simp; omega), (hla.trans (later1 _ _)).trans' (v := .slice none 0 0) g3 (fun _ h => by cases h), hk8.trans (((later1 _ _).trans' (v := .slice none 0 0) g3 (fun _ h => by cases h)).k8)⟩
theorem one_any (w : World) (b : Bool) : Calls Try.prog 70 #[.bool b] w fun e w' => e = .returned (.int .i64 (if b then 1 else 0)) ∧ w' = w := by
  cases b
  all_goals
    go_enter Try.func70, Try.ntmps70
    go_wp2
    go_ret
    exact ⟨rfl, rfl⟩
theorem k8_cell {A w : World} {b : Nat} {C : Array Value} {t : TypeId} {fz : Nat × Nat} (k : K8 A w) (h : A.heap[b]? = some (.cells C t fz)) (ht : t ≠ 5) (o : Nat) : w.cell? ⟨b, o, none⟩ = A.cell? ⟨b, o, none⟩ ∧ b < w.heap.size := by
  have e := k.2 b C t fz h ht
  refine ⟨?_, Nat.lt_of_lt_of_le (lt_of_some h) k.1⟩
  unfold World.cell?
  rw [show w.heap[(⟨b, o, none⟩ : Addr).block]? = A.heap[(⟨b, o, none⟩ : Addr).block]? from e]
/-- A box of no bytes, new in A. -/
def Bx (A : World) (b : Nat) (cs : List Value) : Prop := ∃ t fz, A.heap[b]? = some (.cells cs.toArray t fz) ∧ t ≠ 5
theorem Bx.new (w : World) (cs : Array Value) (t : TypeId) (ht : t ≠ 5) : Bx (w.alloc (.cells cs t)) w.heap.size cs.toList := ⟨t, _, by rw [show (w.alloc (.cells cs t)).heap[w.heap.size]? = some (.cells cs t) from (MapKept.heap_alloc w _).1], ht⟩
theorem Bx.k8 {A w : World} {b : Nat} {cs : List Value} (h : Bx A b cs) (k : K8 A w) : Bx w b cs := by
  obtain ⟨t, fz, e, ht⟩ := h
  exact ⟨t, fz, by rw [k.2 b _ t fz e ht]; exact e, ht⟩
theorem Bx.cell {A : World} {b : Nat} {cs : List Value} (h : Bx A b cs) (i : Nat) (v : Value) (hi : cs[i]? = some v) : A.cell? ⟨b, i, none⟩ = some v := by
  obtain ⟨t, fz, e, _⟩ := h
  unfold World.cell?
  simp only [e]
  simpa using hi
theorem Bx.lt {A : World} {b : Nat} {cs : List Value} (h : Bx A b cs) : b < A.heap.size := by
  obtain ⟨t, fz, e, _⟩ := h
  exact lt_of_some e
end Go.Proofs.Ytlfkjjnhlkaipaa
