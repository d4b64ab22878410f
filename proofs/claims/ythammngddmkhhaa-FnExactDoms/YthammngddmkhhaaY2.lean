/- Typed trees: what they are as data, and what their cells hold. -/
import Derived.Test.YthammngddmkhhaaY1
namespace Go.Proofs.Ythammngddmkhhaa
open Go.RowKit

inductive Va where
  | mk (op : Int) (n : Int) (tk : Int) (tn : Int) (args : List In)
def Va.op : Va → Int | .mk x _ _ _ _ => x
def Va.n : Va → Int | .mk _ x _ _ _ => x
def Va.tk : Va → Int | .mk _ _ x _ _ => x
def Va.tn : Va → Int | .mk _ _ _ x _ => x
def Va.args : Va → List In | .mk _ _ _ _ x => x
def Va.dat : Va → Dat
  | .mk op n tk tn args => .agg [.int op, .int n, .int tk, .int tn, .list 1 (In.dats args)]
def Va.dats : List Va → List Dat
  | [] => []
  | x :: r => x.dat :: Va.dats r
def Va.sz : Va → Nat
  | .mk _ _ _ _ args => In.szs args
def Va.szs : List Va → Nat
  | [] => 0
  | x :: r => 1 + x.sz + Va.szs r
theorem Va.dats_len (l : List Va) : (Va.dats l).length = l.length := by
  induction l with
  | nil => rfl
  | cons x r ih => rw [Va.dats, List.length_cons, List.length_cons, ih]
theorem Va.dats_at : ∀ (l : List Va) (j : Nat) (h : j < l.length) (h' : j < (Va.dats l).length), (Va.dats l)[j] = l[j].dat
  | x :: r, 0, _, _ => rfl
  | x :: r, j + 1, h, h' => Va.dats_at r j (by simpa using h) (by rw [Va.dats_len]; simpa using h)
theorem Va.view {w : World} {x : Va} {cs : List Value} (h : RdD w x.dat cs) : ∃ v0, cs = [.int .i64 x.op, .int .i64 x.n, .int .i64 x.tk, .int .i64 x.tn, v0] ∧ RdL w 1 v0 (In.dats x.args) := by
  obtain ⟨op, n, tk, tn, args⟩ := x
  rw [Va.dat, RdD] at h
  rw [RdAgg] at h
  obtain ⟨c0, d0, rfl, h0, h⟩ := h
  rw [RdD] at h0
  subst h0
  rw [RdAgg] at h
  obtain ⟨c1, d1, rfl, h1, h⟩ := h
  rw [RdD] at h1
  subst h1
  rw [RdAgg] at h
  obtain ⟨c2, d2, rfl, h2, h⟩ := h
  rw [RdD] at h2
  subst h2
  rw [RdAgg] at h
  obtain ⟨c3, d3, rfl, h3, h⟩ := h
  rw [RdD] at h3
  subst h3
  rw [RdAgg] at h
  obtain ⟨c4, d4, rfl, h4, h⟩ := h
  obtain ⟨u4, rfl, k4⟩ := RdL.iff.1 h4
  rw [RdAgg] at h
  subst h
  exact ⟨u4, rfl, k4⟩
theorem Va.unview {w : World} {x : Va} {v0 : Value} (h0 : RdL w 1 v0 (In.dats x.args)) : RdD w x.dat [.int .i64 x.op, .int .i64 x.n, .int .i64 x.tk, .int .i64 x.tn, v0] := by
  obtain ⟨op, n, tk, tn, args⟩ := x
  rw [Va.dat, RdD]
  rw [RdAgg]
  refine ⟨[_], _, rfl, by rw [RdD]; rfl, ?_⟩
  rw [RdAgg]
  refine ⟨[_], _, rfl, by rw [RdD]; rfl, ?_⟩
  rw [RdAgg]
  refine ⟨[_], _, rfl, by rw [RdD]; rfl, ?_⟩
  rw [RdAgg]
  refine ⟨[_], _, rfl, by rw [RdD]; rfl, ?_⟩
  rw [RdAgg]
  refine ⟨[_], _, rfl, RdL.iff.2 ⟨_, rfl, h0⟩, ?_⟩
  rw [RdAgg]
theorem Va.slice {w : World} {v : Value} {l : List Va} (h : RdL w 5 v (Va.dats l)) : ∃ a cap, v = .slice a l.length cap ∧ (l.length : Int) ≤ 9223372036854775807 := by
  obtain ⟨a, cap, e, hl⟩ := h.slice
  rw [Va.dats_len] at e hl
  exact ⟨a, cap, e, hl⟩
theorem Va.elem {w : World} {a : Option Addr} {n cap : Nat} {l : List Va} (h : RdL w 5 (.slice a n cap) (Va.dats l)) (j : Nat) (hj : j < l.length) : ∃ g off v0, a = some ⟨g, off, none⟩ ∧ g < w.heap.size ∧ w.cell? ⟨g, off + j * 5, none⟩ = some (.int .i64 l[j].op) ∧ w.cell? ⟨g, off + j * 5 + 1, none⟩ = some (.int .i64 l[j].n) ∧ w.cell? ⟨g, off + j * 5 + 2, none⟩ = some (.int .i64 l[j].tk) ∧ w.cell? ⟨g, off + j * 5 + 3, none⟩ = some (.int .i64 l[j].tn) ∧ w.cell? ⟨g, off + j * 5 + 4, none⟩ = some (v0) ∧ RdL w 1 v0 (In.dats l[j].args) := by
  obtain ⟨_, _, e, _, h⟩ := h
  cases e
  obtain ⟨g, off, cs, rfl, hg, hk, hc, hd⟩ := h j (by rw [Va.dats_len]; exact hj)
  rw [Va.dats_at l j hj] at hd
  obtain ⟨v0, rfl, r0⟩ := Va.view hd
  exact ⟨g, off, v0, rfl, hg, hc 0 _ rfl, hc 1 _ rfl, hc 2 _ rfl, hc 3 _ rfl, hc 4 _ rfl, r0⟩
theorem Va.szs_ge (l : List Va) : l.length ≤ Va.szs l := by
  induction l with
  | nil => exact Nat.le_refl _
  | cons x r ih => rw [Va.szs, List.length_cons]; omega
theorem Va.sz_at : ∀ (l : List Va) (j : Nat) (h : j < l.length), l[j].sz + l.length ≤ Va.szs l
  | x :: r, 0, _ => by rw [Va.szs]; have := Va.szs_ge r; simp only [List.getElem_cons_zero, List.length_cons]; omega
  | x :: r, j + 1, h => by rw [Va.szs]; have := Va.sz_at r j (by simpa using h); simp only [List.getElem_cons_succ, List.length_cons]; omega
/-- What the first k take, their number aside. -/
def Va.pre (l : List Va) (k : Nat) : Nat := Va.szs (l.take k) - k
theorem Va.pre_zero (l : List Va) : Va.pre l 0 = 0 := rfl
theorem Va.szs_app (l r : List Va) : Va.szs (l ++ r) = Va.szs l + Va.szs r := by
  induction l with
  | nil => rw [List.nil_append, Va.szs, Nat.zero_add]
  | cons x l ih => rw [List.cons_append, Va.szs, Va.szs, ih]; omega
theorem Va.pre_succ {l : List Va} {k : Nat} (h : k < l.length) : Va.pre l (k + 1) = Va.pre l k + l[k].sz := by
  unfold Va.pre
  rw [List.take_succ_eq_append_getElem h, Va.szs_app, Va.szs, Va.szs]
  have := Va.szs_ge (l.take k)
  rw [List.length_take, Nat.min_eq_left (by omega)] at this
  omega
theorem Va.pre_all (l : List Va) : l.length + Va.pre l l.length = Va.szs l := by
  unfold Va.pre
  rw [List.take_length]
  have := Va.szs_ge l
  omega
theorem Va.pre_le (l : List Va) (k : Nat) (h : k ≤ l.length) : l.length + Va.pre l k ≤ Va.szs l := by
  have e : Va.szs l = Va.szs (l.take k) + Va.szs (l.drop k) := by rw [← Va.szs_app, List.take_append_drop]
  have h1 := Va.szs_ge (l.take k)
  have h2 := Va.szs_ge (l.drop k)
  rw [List.length_take, Nat.min_eq_left h] at h1
  rw [List.length_drop] at h2
  unfold Va.pre
  omega

inductive Ed where
  | mk (to : Int) (args : List In)
def Ed.to : Ed → Int | .mk x _ => x
def Ed.args : Ed → List In | .mk _ x => x
def Ed.dat : Ed → Dat
  | .mk to args => .agg [.int to, .list 1 (In.dats args)]
def Ed.dats : List Ed → List Dat
  | [] => []
  | x :: r => x.dat :: Ed.dats r
def Ed.sz : Ed → Nat
  | .mk _ args => In.szs args
def Ed.szs : List Ed → Nat
  | [] => 0
  | x :: r => 1 + x.sz + Ed.szs r
theorem Ed.dats_len (l : List Ed) : (Ed.dats l).length = l.length := by
  induction l with
  | nil => rfl
  | cons x r ih => rw [Ed.dats, List.length_cons, List.length_cons, ih]
theorem Ed.dats_at : ∀ (l : List Ed) (j : Nat) (h : j < l.length) (h' : j < (Ed.dats l).length), (Ed.dats l)[j] = l[j].dat
  | x :: r, 0, _, _ => rfl
  | x :: r, j + 1, h, h' => Ed.dats_at r j (by simpa using h) (by rw [Ed.dats_len]; simpa using h)
theorem Ed.view {w : World} {x : Ed} {cs : List Value} (h : RdD w x.dat cs) : ∃ v0, cs = [.int .i64 x.to, v0] ∧ RdL w 1 v0 (In.dats x.args) := by
  obtain ⟨to, args⟩ := x
  rw [Ed.dat, RdD] at h
  rw [RdAgg] at h
  obtain ⟨c0, d0, rfl, h0, h⟩ := h
  rw [RdD] at h0
  subst h0
  rw [RdAgg] at h
  obtain ⟨c1, d1, rfl, h1, h⟩ := h
  obtain ⟨u1, rfl, k1⟩ := RdL.iff.1 h1
  rw [RdAgg] at h
  subst h
  exact ⟨u1, rfl, k1⟩
theorem Ed.unview {w : World} {x : Ed} {v0 : Value} (h0 : RdL w 1 v0 (In.dats x.args)) : RdD w x.dat [.int .i64 x.to, v0] := by
  obtain ⟨to, args⟩ := x
  rw [Ed.dat, RdD]
  rw [RdAgg]
  refine ⟨[_], _, rfl, by rw [RdD]; rfl, ?_⟩
  rw [RdAgg]
  refine ⟨[_], _, rfl, RdL.iff.2 ⟨_, rfl, h0⟩, ?_⟩
  rw [RdAgg]
theorem Ed.slice {w : World} {v : Value} {l : List Ed} (h : RdL w 2 v (Ed.dats l)) : ∃ a cap, v = .slice a l.length cap ∧ (l.length : Int) ≤ 9223372036854775807 := by
  obtain ⟨a, cap, e, hl⟩ := h.slice
  rw [Ed.dats_len] at e hl
  exact ⟨a, cap, e, hl⟩
theorem Ed.elem {w : World} {a : Option Addr} {n cap : Nat} {l : List Ed} (h : RdL w 2 (.slice a n cap) (Ed.dats l)) (j : Nat) (hj : j < l.length) : ∃ g off v0, a = some ⟨g, off, none⟩ ∧ g < w.heap.size ∧ w.cell? ⟨g, off + j * 2, none⟩ = some (.int .i64 l[j].to) ∧ w.cell? ⟨g, off + j * 2 + 1, none⟩ = some (v0) ∧ RdL w 1 v0 (In.dats l[j].args) := by
  obtain ⟨_, _, e, _, h⟩ := h
  cases e
  obtain ⟨g, off, cs, rfl, hg, hk, hc, hd⟩ := h j (by rw [Ed.dats_len]; exact hj)
  rw [Ed.dats_at l j hj] at hd
  obtain ⟨v0, rfl, r0⟩ := Ed.view hd
  exact ⟨g, off, v0, rfl, hg, hc 0 _ rfl, hc 1 _ rfl, r0⟩
theorem Ed.szs_ge (l : List Ed) : l.length ≤ Ed.szs l := by
  induction l with
  | nil => exact Nat.le_refl _
  | cons x r ih => rw [Ed.szs, List.length_cons]; omega
theorem Ed.sz_at : ∀ (l : List Ed) (j : Nat) (h : j < l.length), l[j].sz + l.length ≤ Ed.szs l
  | x :: r, 0, _ => by rw [Ed.szs]; have := Ed.szs_ge r; simp only [List.getElem_cons_zero, List.length_cons]; omega
  | x :: r, j + 1, h => by rw [Ed.szs]; have := Ed.sz_at r j (by simpa using h); simp only [List.getElem_cons_succ, List.length_cons]; omega
/-- What the first k take, their number aside. -/
def Ed.pre (l : List Ed) (k : Nat) : Nat := Ed.szs (l.take k) - k
theorem Ed.pre_zero (l : List Ed) : Ed.pre l 0 = 0 := rfl
theorem Ed.szs_app (l r : List Ed) : Ed.szs (l ++ r) = Ed.szs l + Ed.szs r := by
  induction l with
  | nil => rw [List.nil_append, Ed.szs, Nat.zero_add]
  | cons x l ih => rw [List.cons_append, Ed.szs, Ed.szs, ih]; omega
theorem Ed.pre_succ {l : List Ed} {k : Nat} (h : k < l.length) : Ed.pre l (k + 1) = Ed.pre l k + l[k].sz := by
  unfold Ed.pre
  rw [List.take_succ_eq_append_getElem h, Ed.szs_app, Ed.szs, Ed.szs]
  have := Ed.szs_ge (l.take k)
  rw [List.length_take, Nat.min_eq_left (by omega)] at this
  omega
theorem Ed.pre_all (l : List Ed) : l.length + Ed.pre l l.length = Ed.szs l := by
  unfold Ed.pre
  rw [List.take_length]
  have := Ed.szs_ge l
  omega
theorem Ed.pre_le (l : List Ed) (k : Nat) (h : k ≤ l.length) : l.length + Ed.pre l k ≤ Ed.szs l := by
  have e : Ed.szs l = Ed.szs (l.take k) + Ed.szs (l.drop k) := by rw [← Ed.szs_app, List.take_append_drop]
  have h1 := Ed.szs_ge (l.take k)
  have h2 := Ed.szs_ge (l.drop k)
  rw [List.length_take, Nat.min_eq_left h] at h1
  rw [List.length_drop] at h2
  unfold Ed.pre
  omega

inductive Bl where
  | mk (params : List In) (code : List In) (term : Int) (args : List In) (out : List Ed)
def Bl.params : Bl → List In | .mk x _ _ _ _ => x
def Bl.code : Bl → List In | .mk _ x _ _ _ => x
def Bl.term : Bl → Int | .mk _ _ x _ _ => x
def Bl.args : Bl → List In | .mk _ _ _ x _ => x
def Bl.out : Bl → List Ed | .mk _ _ _ _ x => x
def Bl.dat : Bl → Dat
  | .mk params code term args out => .agg [.list 1 (In.dats params), .list 1 (In.dats code), .int term, .list 1 (In.dats args), .list 2 (Ed.dats out)]
def Bl.dats : List Bl → List Dat
  | [] => []
  | x :: r => x.dat :: Bl.dats r
def Bl.sz : Bl → Nat
  | .mk params code _ args out => In.szs params + In.szs code + In.szs args + Ed.szs out
def Bl.szs : List Bl → Nat
  | [] => 0
  | x :: r => 1 + x.sz + Bl.szs r
theorem Bl.dats_len (l : List Bl) : (Bl.dats l).length = l.length := by
  induction l with
  | nil => rfl
  | cons x r ih => rw [Bl.dats, List.length_cons, List.length_cons, ih]
theorem Bl.dats_at : ∀ (l : List Bl) (j : Nat) (h : j < l.length) (h' : j < (Bl.dats l).length), (Bl.dats l)[j] = l[j].dat
  | x :: r, 0, _, _ => rfl
  | x :: r, j + 1, h, h' => Bl.dats_at r j (by simpa using h) (by rw [Bl.dats_len]; simpa using h)
theorem Bl.view {w : World} {x : Bl} {cs : List Value} (h : RdD w x.dat cs) : ∃ v0 v1 v2 v3, cs = [v0, v1, .int .i64 x.term, v2, v3] ∧ RdL w 1 v0 (In.dats x.params) ∧ RdL w 1 v1 (In.dats x.code) ∧ RdL w 1 v2 (In.dats x.args) ∧ RdL w 2 v3 (Ed.dats x.out) := by
  obtain ⟨params, code, term, args, out⟩ := x
  rw [Bl.dat, RdD] at h
  rw [RdAgg] at h
  obtain ⟨c0, d0, rfl, h0, h⟩ := h
  obtain ⟨u0, rfl, k0⟩ := RdL.iff.1 h0
  rw [RdAgg] at h
  obtain ⟨c1, d1, rfl, h1, h⟩ := h
  obtain ⟨u1, rfl, k1⟩ := RdL.iff.1 h1
  rw [RdAgg] at h
  obtain ⟨c2, d2, rfl, h2, h⟩ := h
  rw [RdD] at h2
  subst h2
  rw [RdAgg] at h
  obtain ⟨c3, d3, rfl, h3, h⟩ := h
  obtain ⟨u3, rfl, k3⟩ := RdL.iff.1 h3
  rw [RdAgg] at h
  obtain ⟨c4, d4, rfl, h4, h⟩ := h
  obtain ⟨u4, rfl, k4⟩ := RdL.iff.1 h4
  rw [RdAgg] at h
  subst h
  exact ⟨u0, u1, u3, u4, rfl, k0, k1, k3, k4⟩
theorem Bl.unview {w : World} {x : Bl} {v0 v1 v2 v3 : Value} (h0 : RdL w 1 v0 (In.dats x.params)) (h1 : RdL w 1 v1 (In.dats x.code)) (h2 : RdL w 1 v2 (In.dats x.args)) (h3 : RdL w 2 v3 (Ed.dats x.out)) : RdD w x.dat [v0, v1, .int .i64 x.term, v2, v3] := by
  obtain ⟨params, code, term, args, out⟩ := x
  rw [Bl.dat, RdD]
  rw [RdAgg]
  refine ⟨[_], _, rfl, RdL.iff.2 ⟨_, rfl, h0⟩, ?_⟩
  rw [RdAgg]
  refine ⟨[_], _, rfl, RdL.iff.2 ⟨_, rfl, h1⟩, ?_⟩
  rw [RdAgg]
  refine ⟨[_], _, rfl, by rw [RdD]; rfl, ?_⟩
  rw [RdAgg]
  refine ⟨[_], _, rfl, RdL.iff.2 ⟨_, rfl, h2⟩, ?_⟩
  rw [RdAgg]
  refine ⟨[_], _, rfl, RdL.iff.2 ⟨_, rfl, h3⟩, ?_⟩
  rw [RdAgg]
theorem Bl.slice {w : World} {v : Value} {l : List Bl} (h : RdL w 5 v (Bl.dats l)) : ∃ a cap, v = .slice a l.length cap ∧ (l.length : Int) ≤ 9223372036854775807 := by
  obtain ⟨a, cap, e, hl⟩ := h.slice
  rw [Bl.dats_len] at e hl
  exact ⟨a, cap, e, hl⟩
theorem Bl.elem {w : World} {a : Option Addr} {n cap : Nat} {l : List Bl} (h : RdL w 5 (.slice a n cap) (Bl.dats l)) (j : Nat) (hj : j < l.length) : ∃ g off v0 v1 v2 v3, a = some ⟨g, off, none⟩ ∧ g < w.heap.size ∧ w.cell? ⟨g, off + j * 5, none⟩ = some (v0) ∧ w.cell? ⟨g, off + j * 5 + 1, none⟩ = some (v1) ∧ w.cell? ⟨g, off + j * 5 + 2, none⟩ = some (.int .i64 l[j].term) ∧ w.cell? ⟨g, off + j * 5 + 3, none⟩ = some (v2) ∧ w.cell? ⟨g, off + j * 5 + 4, none⟩ = some (v3) ∧ RdL w 1 v0 (In.dats l[j].params) ∧ RdL w 1 v1 (In.dats l[j].code) ∧ RdL w 1 v2 (In.dats l[j].args) ∧ RdL w 2 v3 (Ed.dats l[j].out) := by
  obtain ⟨_, _, e, _, h⟩ := h
  cases e
  obtain ⟨g, off, cs, rfl, hg, hk, hc, hd⟩ := h j (by rw [Bl.dats_len]; exact hj)
  rw [Bl.dats_at l j hj] at hd
  obtain ⟨v0, v1, v2, v3, rfl, r0, r1, r2, r3⟩ := Bl.view hd
  exact ⟨g, off, v0, v1, v2, v3, rfl, hg, hc 0 _ rfl, hc 1 _ rfl, hc 2 _ rfl, hc 3 _ rfl, hc 4 _ rfl, r0, r1, r2, r3⟩
theorem Bl.szs_ge (l : List Bl) : l.length ≤ Bl.szs l := by
  induction l with
  | nil => exact Nat.le_refl _
  | cons x r ih => rw [Bl.szs, List.length_cons]; omega
theorem Bl.sz_at : ∀ (l : List Bl) (j : Nat) (h : j < l.length), l[j].sz + l.length ≤ Bl.szs l
  | x :: r, 0, _ => by rw [Bl.szs]; have := Bl.szs_ge r; simp only [List.getElem_cons_zero, List.length_cons]; omega
  | x :: r, j + 1, h => by rw [Bl.szs]; have := Bl.sz_at r j (by simpa using h); simp only [List.getElem_cons_succ, List.length_cons]; omega
/-- What the first k take, their number aside. -/
def Bl.pre (l : List Bl) (k : Nat) : Nat := Bl.szs (l.take k) - k
theorem Bl.pre_zero (l : List Bl) : Bl.pre l 0 = 0 := rfl
theorem Bl.szs_app (l r : List Bl) : Bl.szs (l ++ r) = Bl.szs l + Bl.szs r := by
  induction l with
  | nil => rw [List.nil_append, Bl.szs, Nat.zero_add]
  | cons x l ih => rw [List.cons_append, Bl.szs, Bl.szs, ih]; omega
theorem Bl.pre_succ {l : List Bl} {k : Nat} (h : k < l.length) : Bl.pre l (k + 1) = Bl.pre l k + l[k].sz := by
  unfold Bl.pre
  rw [List.take_succ_eq_append_getElem h, Bl.szs_app, Bl.szs, Bl.szs]
  have := Bl.szs_ge (l.take k)
  rw [List.length_take, Nat.min_eq_left (by omega)] at this
  omega
theorem Bl.pre_all (l : List Bl) : l.length + Bl.pre l l.length = Bl.szs l := by
  unfold Bl.pre
  rw [List.take_length]
  have := Bl.szs_ge l
  omega
theorem Bl.pre_le (l : List Bl) (k : Nat) (h : k ≤ l.length) : l.length + Bl.pre l k ≤ Bl.szs l := by
  have e : Bl.szs l = Bl.szs (l.take k) + Bl.szs (l.drop k) := by rw [← Bl.szs_app, List.take_append_drop]
  have h1 := Bl.szs_ge (l.take k)
  have h2 := Bl.szs_ge (l.drop k)
  rw [List.length_take, Nat.min_eq_left h] at h1
  rw [List.length_drop] at h2
  unfold Bl.pre
  omega

inductive Fc where
  | mk (params : List Tp) (rk : Int) (rn : Int) (vals : List Va) (blocks : List Bl)
def Fc.params : Fc → List Tp | .mk x _ _ _ _ => x
def Fc.rk : Fc → Int | .mk _ x _ _ _ => x
def Fc.rn : Fc → Int | .mk _ _ x _ _ => x
def Fc.vals : Fc → List Va | .mk _ _ _ x _ => x
def Fc.blocks : Fc → List Bl | .mk _ _ _ _ x => x
def Fc.dat : Fc → Dat
  | .mk params rk rn vals blocks => .agg [.list 2 (Tp.dats params), .int rk, .int rn, .list 5 (Va.dats vals), .list 5 (Bl.dats blocks)]
def Fc.dats : List Fc → List Dat
  | [] => []
  | x :: r => x.dat :: Fc.dats r
def Fc.sz : Fc → Nat
  | .mk params _ _ vals blocks => Tp.szs params + Va.szs vals + Bl.szs blocks
def Fc.szs : List Fc → Nat
  | [] => 0
  | x :: r => 1 + x.sz + Fc.szs r
theorem Fc.dats_len (l : List Fc) : (Fc.dats l).length = l.length := by
  induction l with
  | nil => rfl
  | cons x r ih => rw [Fc.dats, List.length_cons, List.length_cons, ih]
theorem Fc.dats_at : ∀ (l : List Fc) (j : Nat) (h : j < l.length) (h' : j < (Fc.dats l).length), (Fc.dats l)[j] = l[j].dat
  | x :: r, 0, _, _ => rfl
  | x :: r, j + 1, h, h' => Fc.dats_at r j (by simpa using h) (by rw [Fc.dats_len]; simpa using h)
theorem Fc.view {w : World} {x : Fc} {cs : List Value} (h : RdD w x.dat cs) : ∃ v0 v1 v2, cs = [v0, .int .i64 x.rk, .int .i64 x.rn, v1, v2] ∧ RdL w 2 v0 (Tp.dats x.params) ∧ RdL w 5 v1 (Va.dats x.vals) ∧ RdL w 5 v2 (Bl.dats x.blocks) := by
  obtain ⟨params, rk, rn, vals, blocks⟩ := x
  rw [Fc.dat, RdD] at h
  rw [RdAgg] at h
  obtain ⟨c0, d0, rfl, h0, h⟩ := h
  obtain ⟨u0, rfl, k0⟩ := RdL.iff.1 h0
  rw [RdAgg] at h
  obtain ⟨c1, d1, rfl, h1, h⟩ := h
  rw [RdD] at h1
  subst h1
  rw [RdAgg] at h
  obtain ⟨c2, d2, rfl, h2, h⟩ := h
  rw [RdD] at h2
  subst h2
  rw [RdAgg] at h
  obtain ⟨c3, d3, rfl, h3, h⟩ := h
  obtain ⟨u3, rfl, k3⟩ := RdL.iff.1 h3
  rw [RdAgg] at h
  obtain ⟨c4, d4, rfl, h4, h⟩ := h
  obtain ⟨u4, rfl, k4⟩ := RdL.iff.1 h4
  rw [RdAgg] at h
  subst h
  exact ⟨u0, u3, u4, rfl, k0, k3, k4⟩
theorem Fc.unview {w : World} {x : Fc} {v0 v1 v2 : Value} (h0 : RdL w 2 v0 (Tp.dats x.params)) (h1 : RdL w 5 v1 (Va.dats x.vals)) (h2 : RdL w 5 v2 (Bl.dats x.blocks)) : RdD w x.dat [v0, .int .i64 x.rk, .int .i64 x.rn, v1, v2] := by
  obtain ⟨params, rk, rn, vals, blocks⟩ := x
  rw [Fc.dat, RdD]
  rw [RdAgg]
  refine ⟨[_], _, rfl, RdL.iff.2 ⟨_, rfl, h0⟩, ?_⟩
  rw [RdAgg]
  refine ⟨[_], _, rfl, by rw [RdD]; rfl, ?_⟩
  rw [RdAgg]
  refine ⟨[_], _, rfl, by rw [RdD]; rfl, ?_⟩
  rw [RdAgg]
  refine ⟨[_], _, rfl, RdL.iff.2 ⟨_, rfl, h1⟩, ?_⟩
  rw [RdAgg]
  refine ⟨[_], _, rfl, RdL.iff.2 ⟨_, rfl, h2⟩, ?_⟩
  rw [RdAgg]
theorem Fc.slice {w : World} {v : Value} {l : List Fc} (h : RdL w 5 v (Fc.dats l)) : ∃ a cap, v = .slice a l.length cap ∧ (l.length : Int) ≤ 9223372036854775807 := by
  obtain ⟨a, cap, e, hl⟩ := h.slice
  rw [Fc.dats_len] at e hl
  exact ⟨a, cap, e, hl⟩
theorem Fc.elem {w : World} {a : Option Addr} {n cap : Nat} {l : List Fc} (h : RdL w 5 (.slice a n cap) (Fc.dats l)) (j : Nat) (hj : j < l.length) : ∃ g off v0 v1 v2, a = some ⟨g, off, none⟩ ∧ g < w.heap.size ∧ w.cell? ⟨g, off + j * 5, none⟩ = some (v0) ∧ w.cell? ⟨g, off + j * 5 + 1, none⟩ = some (.int .i64 l[j].rk) ∧ w.cell? ⟨g, off + j * 5 + 2, none⟩ = some (.int .i64 l[j].rn) ∧ w.cell? ⟨g, off + j * 5 + 3, none⟩ = some (v1) ∧ w.cell? ⟨g, off + j * 5 + 4, none⟩ = some (v2) ∧ RdL w 2 v0 (Tp.dats l[j].params) ∧ RdL w 5 v1 (Va.dats l[j].vals) ∧ RdL w 5 v2 (Bl.dats l[j].blocks) := by
  obtain ⟨_, _, e, _, h⟩ := h
  cases e
  obtain ⟨g, off, cs, rfl, hg, hk, hc, hd⟩ := h j (by rw [Fc.dats_len]; exact hj)
  rw [Fc.dats_at l j hj] at hd
  obtain ⟨v0, v1, v2, rfl, r0, r1, r2⟩ := Fc.view hd
  exact ⟨g, off, v0, v1, v2, rfl, hg, hc 0 _ rfl, hc 1 _ rfl, hc 2 _ rfl, hc 3 _ rfl, hc 4 _ rfl, r0, r1, r2⟩
theorem Fc.szs_ge (l : List Fc) : l.length ≤ Fc.szs l := by
  induction l with
  | nil => exact Nat.le_refl _
  | cons x r ih => rw [Fc.szs, List.length_cons]; omega
theorem Fc.sz_at : ∀ (l : List Fc) (j : Nat) (h : j < l.length), l[j].sz + l.length ≤ Fc.szs l
  | x :: r, 0, _ => by rw [Fc.szs]; have := Fc.szs_ge r; simp only [List.getElem_cons_zero, List.length_cons]; omega
  | x :: r, j + 1, h => by rw [Fc.szs]; have := Fc.sz_at r j (by simpa using h); simp only [List.getElem_cons_succ, List.length_cons]; omega
/-- What the first k take, their number aside. -/
def Fc.pre (l : List Fc) (k : Nat) : Nat := Fc.szs (l.take k) - k
theorem Fc.pre_zero (l : List Fc) : Fc.pre l 0 = 0 := rfl
theorem Fc.szs_app (l r : List Fc) : Fc.szs (l ++ r) = Fc.szs l + Fc.szs r := by
  induction l with
  | nil => rw [List.nil_append, Fc.szs, Nat.zero_add]
  | cons x l ih => rw [List.cons_append, Fc.szs, Fc.szs, ih]; omega
theorem Fc.pre_succ {l : List Fc} {k : Nat} (h : k < l.length) : Fc.pre l (k + 1) = Fc.pre l k + l[k].sz := by
  unfold Fc.pre
  rw [List.take_succ_eq_append_getElem h, Fc.szs_app, Fc.szs, Fc.szs]
  have := Fc.szs_ge (l.take k)
  rw [List.length_take, Nat.min_eq_left (by omega)] at this
  omega
theorem Fc.pre_all (l : List Fc) : l.length + Fc.pre l l.length = Fc.szs l := by
  unfold Fc.pre
  rw [List.take_length]
  have := Fc.szs_ge l
  omega
theorem Fc.pre_le (l : List Fc) (k : Nat) (h : k ≤ l.length) : l.length + Fc.pre l k ≤ Fc.szs l := by
  have e : Fc.szs l = Fc.szs (l.take k) + Fc.szs (l.drop k) := by rw [← Fc.szs_app, List.take_append_drop]
  have h1 := Fc.szs_ge (l.take k)
  have h2 := Fc.szs_ge (l.drop k)
  rw [List.length_take, Nat.min_eq_left h] at h1
  rw [List.length_drop] at h2
  unfold Fc.pre
  omega

end Go.Proofs.Ythammngddmkhhaa
