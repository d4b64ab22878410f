/- Typed trees: what they are as data, and what their cells hold. -/
import Derived.Test.YtlfkjjnhlkaipaaJ6
namespace Go.Proofs.Ytlfkjjnhlkaipaa
open Go.RowKit

inductive Se where
  | mk (half : Int) (stack : Int) (input : List In) (fuel : Int) (oracle : List In)
def Se.half : Se → Int | .mk x _ _ _ _ => x
def Se.stack : Se → Int | .mk _ x _ _ _ => x
def Se.input : Se → List In | .mk _ _ x _ _ => x
def Se.fuel : Se → Int | .mk _ _ _ x _ => x
def Se.oracle : Se → List In | .mk _ _ _ _ x => x
def Se.dat : Se → Dat
  | .mk half stack input fuel oracle => .agg [.int half, .int stack, .list 1 (In.dats input), .int fuel, .list 1 (In.dats oracle)]
def Se.dats : List Se → List Dat
  | [] => []
  | x :: r => x.dat :: Se.dats r
def Se.sz : Se → Nat
  | .mk _ _ input _ oracle => In.szs input + In.szs oracle
def Se.szs : List Se → Nat
  | [] => 0
  | x :: r => 1 + x.sz + Se.szs r
theorem Se.dats_len (l : List Se) : (Se.dats l).length = l.length := by
  induction l with
  | nil => rfl
  | cons x r ih => rw [Se.dats, List.length_cons, List.length_cons, ih]
theorem Se.dats_at : ∀ (l : List Se) (j : Nat) (h : j < l.length) (h' : j < (Se.dats l).length), (Se.dats l)[j] = l[j].dat
  | x :: r, 0, _, _ => rfl
  | x :: r, j + 1, h, h' => Se.dats_at r j (by simpa using h) (by rw [Se.dats_len]; simpa using h)
theorem Se.view {w : World} {x : Se} {cs : List Value} (h : RdD w x.dat cs) : ∃ v0 v1, cs = [.int .i64 x.half, .int .i64 x.stack, v0, .int .i64 x.fuel, v1] ∧ RdL w 1 v0 (In.dats x.input) ∧ RdL w 1 v1 (In.dats x.oracle) := by
  obtain ⟨half, stack, input, fuel, oracle⟩ := x
  rw [Se.dat, RdD] at h
  rw [RdAgg] at h
  obtain ⟨c0, d0, rfl, h0, h⟩ := h
  rw [RdD] at h0
  subst h0
  rw [RdAgg] at h
  obtain ⟨c1, d1, rfl, h1, h⟩ := h
  rw [RdD] at h1
  subst h1
  rw [RdAgg] at h
  obtain ⟨c2, d2, rfl, h2, h⟩ := h
  obtain ⟨u2, rfl, k2⟩ := RdL.iff.1 h2
  rw [RdAgg] at h
  obtain ⟨c3, d3, rfl, h3, h⟩ := h
  rw [RdD] at h3
  subst h3
  rw [RdAgg] at h
  obtain ⟨c4, d4, rfl, h4, h⟩ := h
  obtain ⟨u4, rfl, k4⟩ := RdL.iff.1 h4
  rw [RdAgg] at h
  subst h
  exact ⟨u2, u4, rfl, k2, k4⟩
theorem Se.unview {w : World} {x : Se} {v0 v1 : Value} (h0 : RdL w 1 v0 (In.dats x.input)) (h1 : RdL w 1 v1 (In.dats x.oracle)) : RdD w x.dat [.int .i64 x.half, .int .i64 x.stack, v0, .int .i64 x.fuel, v1] := by
  obtain ⟨half, stack, input, fuel, oracle⟩ := x
  rw [Se.dat, RdD]
  rw [RdAgg]
  refine ⟨[_], _, rfl, by rw [RdD]; rfl, ?_⟩
  rw [RdAgg]
  refine ⟨[_], _, rfl, by rw [RdD]; rfl, ?_⟩
  rw [RdAgg]
  refine ⟨[_], _, rfl, RdL.iff.2 ⟨_, rfl, h0⟩, ?_⟩
  rw [RdAgg]
  refine ⟨[_], _, rfl, by rw [RdD]; rfl, ?_⟩
  rw [RdAgg]
  refine ⟨[_], _, rfl, RdL.iff.2 ⟨_, rfl, h1⟩, ?_⟩
  rw [RdAgg]
theorem Se.slice {w : World} {v : Value} {l : List Se} (h : RdL w 5 v (Se.dats l)) : ∃ a cap, v = .slice a l.length cap ∧ (l.length : Int) ≤ 9223372036854775807 := by
  obtain ⟨a, cap, e, hl⟩ := h.slice
  rw [Se.dats_len] at e hl
  exact ⟨a, cap, e, hl⟩
theorem Se.elem {w : World} {a : Option Addr} {n cap : Nat} {l : List Se} (h : RdL w 5 (.slice a n cap) (Se.dats l)) (j : Nat) (hj : j < l.length) : ∃ g off v0 v1, a = some ⟨g, off, none⟩ ∧ g < w.heap.size ∧ w.cell? ⟨g, off + j * 5, none⟩ = some (.int .i64 l[j].half) ∧ w.cell? ⟨g, off + j * 5 + 1, none⟩ = some (.int .i64 l[j].stack) ∧ w.cell? ⟨g, off + j * 5 + 2, none⟩ = some (v0) ∧ w.cell? ⟨g, off + j * 5 + 3, none⟩ = some (.int .i64 l[j].fuel) ∧ w.cell? ⟨g, off + j * 5 + 4, none⟩ = some (v1) ∧ RdL w 1 v0 (In.dats l[j].input) ∧ RdL w 1 v1 (In.dats l[j].oracle) := by
  obtain ⟨_, _, e, _, h⟩ := h
  cases e
  obtain ⟨g, off, cs, rfl, hg, hk, hc, hd⟩ := h j (by rw [Se.dats_len]; exact hj)
  rw [Se.dats_at l j hj] at hd
  obtain ⟨v0, v1, rfl, r0, r1⟩ := Se.view hd
  exact ⟨g, off, v0, v1, rfl, hg, hc 0 _ rfl, hc 1 _ rfl, hc 2 _ rfl, hc 3 _ rfl, hc 4 _ rfl, r0, r1⟩
theorem Se.szs_ge (l : List Se) : l.length ≤ Se.szs l := by
  induction l with
  | nil => exact Nat.le_refl _
  | cons x r ih => rw [Se.szs, List.length_cons]; omega
theorem Se.sz_at : ∀ (l : List Se) (j : Nat) (h : j < l.length), l[j].sz + l.length ≤ Se.szs l
  | x :: r, 0, _ => by rw [Se.szs]; have := Se.szs_ge r; simp only [List.getElem_cons_zero, List.length_cons]; omega
  | x :: r, j + 1, h => by rw [Se.szs]; have := Se.sz_at r j (by simpa using h); simp only [List.getElem_cons_succ, List.length_cons]; omega
/-- What the first k take, their number aside. -/
def Se.pre (l : List Se) (k : Nat) : Nat := Se.szs (l.take k) - k
theorem Se.pre_zero (l : List Se) : Se.pre l 0 = 0 := rfl
theorem Se.szs_app (l r : List Se) : Se.szs (l ++ r) = Se.szs l + Se.szs r := by
  induction l with
  | nil => rw [List.nil_append, Se.szs, Nat.zero_add]
  | cons x l ih => rw [List.cons_append, Se.szs, Se.szs, ih]; omega
theorem Se.pre_succ {l : List Se} {k : Nat} (h : k < l.length) : Se.pre l (k + 1) = Se.pre l k + l[k].sz := by
  unfold Se.pre
  rw [List.take_succ_eq_append_getElem h, Se.szs_app, Se.szs, Se.szs]
  have := Se.szs_ge (l.take k)
  rw [List.length_take, Nat.min_eq_left (by omega)] at this
  omega
theorem Se.pre_all (l : List Se) : l.length + Se.pre l l.length = Se.szs l := by
  unfold Se.pre
  rw [List.take_length]
  have := Se.szs_ge l
  omega
theorem Se.pre_le (l : List Se) (k : Nat) (h : k ≤ l.length) : l.length + Se.pre l k ≤ Se.szs l := by
  have e : Se.szs l = Se.szs (l.take k) + Se.szs (l.drop k) := by rw [← Se.szs_app, List.take_append_drop]
  have h1 := Se.szs_ge (l.take k)
  have h2 := Se.szs_ge (l.drop k)
  rw [List.length_take, Nat.min_eq_left h] at h1
  rw [List.length_drop] at h2
  unfold Se.pre
  omega

end Go.Proofs.Ytlfkjjnhlkaipaa
