/- Typed trees: what they are as data, and what their cells hold. -/
import Derived.Test.YtleakieppapjmaaDoorT1
namespace Go.Proofs.YtleakieppapjmaaDoor
open Go.RowKit

inductive Pa where
  | mk (name : List Int) (tk : Int) (tn : Int)
def Pa.name : Pa → List Int | .mk x _ _ => x
def Pa.tk : Pa → Int | .mk _ x _ => x
def Pa.tn : Pa → Int | .mk _ _ x => x
def Pa.dat : Pa → Dat
  | .mk name tk tn => .agg [.bytes name, .int tk, .int tn]
def Pa.dats : List Pa → List Dat
  | [] => []
  | x :: r => x.dat :: Pa.dats r
def Pa.sz : Pa → Nat
  | .mk name _ _ => name.length
def Pa.szs : List Pa → Nat
  | [] => 0
  | x :: r => 1 + x.sz + Pa.szs r
theorem Pa.dats_len (l : List Pa) : (Pa.dats l).length = l.length := by
  induction l with
  | nil => rfl
  | cons x r ih => rw [Pa.dats, List.length_cons, List.length_cons, ih]
theorem Pa.dats_at : ∀ (l : List Pa) (j : Nat) (h : j < l.length) (h' : j < (Pa.dats l).length), (Pa.dats l)[j] = l[j].dat
  | x :: r, 0, _, _ => rfl
  | x :: r, j + 1, h, h' => Pa.dats_at r j (by simpa using h) (by rw [Pa.dats_len]; simpa using h)
theorem Pa.view {w : World} {x : Pa} {cs : List Value} (h : RdD w x.dat cs) : ∃ v0, cs = [v0, .int .i64 x.tk, .int .i64 x.tn] ∧ RdN w v0 x.name := by
  obtain ⟨name, tk, tn⟩ := x
  rw [Pa.dat, RdD] at h
  rw [RdAgg] at h
  obtain ⟨c0, d0, rfl, h0, h⟩ := h
  obtain ⟨u0, rfl, k0⟩ := RdN.iff.1 h0
  rw [RdAgg] at h
  obtain ⟨c1, d1, rfl, h1, h⟩ := h
  rw [RdD] at h1
  subst h1
  rw [RdAgg] at h
  obtain ⟨c2, d2, rfl, h2, h⟩ := h
  rw [RdD] at h2
  subst h2
  rw [RdAgg] at h
  subst h
  exact ⟨u0, rfl, k0⟩
theorem Pa.unview {w : World} {x : Pa} {v0 : Value} (h0 : RdN w v0 x.name) : RdD w x.dat [v0, .int .i64 x.tk, .int .i64 x.tn] := by
  obtain ⟨name, tk, tn⟩ := x
  rw [Pa.dat, RdD]
  rw [RdAgg]
  refine ⟨[_], _, rfl, RdN.iff.2 ⟨_, rfl, h0⟩, ?_⟩
  rw [RdAgg]
  refine ⟨[_], _, rfl, by rw [RdD]; rfl, ?_⟩
  rw [RdAgg]
  refine ⟨[_], _, rfl, by rw [RdD]; rfl, ?_⟩
  rw [RdAgg]
theorem Pa.slice {w : World} {v : Value} {l : List Pa} (h : RdL w 3 v (Pa.dats l)) : ∃ a cap, v = .slice a l.length cap ∧ (l.length : Int) ≤ 9223372036854775807 := by
  obtain ⟨a, cap, e, hl⟩ := h.slice
  rw [Pa.dats_len] at e hl
  exact ⟨a, cap, e, hl⟩
theorem Pa.elem {w : World} {a : Option Addr} {n cap : Nat} {l : List Pa} (h : RdL w 3 (.slice a n cap) (Pa.dats l)) (j : Nat) (hj : j < l.length) : ∃ g off v0, a = some ⟨g, off, none⟩ ∧ g < w.heap.size ∧ w.cell? ⟨g, off + j * 3, none⟩ = some (v0) ∧ w.cell? ⟨g, off + j * 3 + 1, none⟩ = some (.int .i64 l[j].tk) ∧ w.cell? ⟨g, off + j * 3 + 2, none⟩ = some (.int .i64 l[j].tn) ∧ RdN w v0 l[j].name := by
  obtain ⟨_, _, e, _, h⟩ := h
  cases e
  obtain ⟨g, off, cs, rfl, hg, hk, hc, hd⟩ := h j (by rw [Pa.dats_len]; exact hj)
  rw [Pa.dats_at l j hj] at hd
  obtain ⟨v0, rfl, r0⟩ := Pa.view hd
  exact ⟨g, off, v0, rfl, hg, hc 0 _ rfl, hc 1 _ rfl, hc 2 _ rfl, r0⟩
theorem Pa.szs_ge (l : List Pa) : l.length ≤ Pa.szs l := by
  induction l with
  | nil => exact Nat.le_refl _
  | cons x r ih => rw [Pa.szs, List.length_cons]; omega
theorem Pa.sz_at : ∀ (l : List Pa) (j : Nat) (h : j < l.length), l[j].sz + l.length ≤ Pa.szs l
  | x :: r, 0, _ => by rw [Pa.szs]; have := Pa.szs_ge r; simp only [List.getElem_cons_zero, List.length_cons]; omega
  | x :: r, j + 1, h => by rw [Pa.szs]; have := Pa.sz_at r j (by simpa using h); simp only [List.getElem_cons_succ, List.length_cons]; omega
/-- What the first k take, their number aside. -/
def Pa.pre (l : List Pa) (k : Nat) : Nat := Pa.szs (l.take k) - k
theorem Pa.pre_zero (l : List Pa) : Pa.pre l 0 = 0 := rfl
theorem Pa.szs_app (l r : List Pa) : Pa.szs (l ++ r) = Pa.szs l + Pa.szs r := by
  induction l with
  | nil => rw [List.nil_append, Pa.szs, Nat.zero_add]
  | cons x l ih => rw [List.cons_append, Pa.szs, Pa.szs, ih]; omega
theorem Pa.pre_succ {l : List Pa} {k : Nat} (h : k < l.length) : Pa.pre l (k + 1) = Pa.pre l k + l[k].sz := by
  unfold Pa.pre
  rw [List.take_succ_eq_append_getElem h, Pa.szs_app, Pa.szs, Pa.szs]
  have := Pa.szs_ge (l.take k)
  rw [List.length_take, Nat.min_eq_left (by omega)] at this
  omega
theorem Pa.pre_all (l : List Pa) : l.length + Pa.pre l l.length = Pa.szs l := by
  unfold Pa.pre
  rw [List.take_length]
  have := Pa.szs_ge l
  omega
theorem Pa.pre_le (l : List Pa) (k : Nat) (h : k ≤ l.length) : l.length + Pa.pre l k ≤ Pa.szs l := by
  have e : Pa.szs l = Pa.szs (l.take k) + Pa.szs (l.drop k) := by rw [← Pa.szs_app, List.take_append_drop]
  have h1 := Pa.szs_ge (l.take k)
  have h2 := Pa.szs_ge (l.drop k)
  rw [List.length_take, Nat.min_eq_left h] at h1
  rw [List.length_drop] at h2
  unfold Pa.pre
  omega

inductive Sc where
  | mk (name : List Int) (fields : List Pa)
def Sc.name : Sc → List Int | .mk x _ => x
def Sc.fields : Sc → List Pa | .mk _ x => x
def Sc.dat : Sc → Dat
  | .mk name fields => .agg [.bytes name, .list 3 (Pa.dats fields)]
def Sc.dats : List Sc → List Dat
  | [] => []
  | x :: r => x.dat :: Sc.dats r
def Sc.sz : Sc → Nat
  | .mk name fields => name.length + Pa.szs fields
def Sc.szs : List Sc → Nat
  | [] => 0
  | x :: r => 1 + x.sz + Sc.szs r
theorem Sc.dats_len (l : List Sc) : (Sc.dats l).length = l.length := by
  induction l with
  | nil => rfl
  | cons x r ih => rw [Sc.dats, List.length_cons, List.length_cons, ih]
theorem Sc.dats_at : ∀ (l : List Sc) (j : Nat) (h : j < l.length) (h' : j < (Sc.dats l).length), (Sc.dats l)[j] = l[j].dat
  | x :: r, 0, _, _ => rfl
  | x :: r, j + 1, h, h' => Sc.dats_at r j (by simpa using h) (by rw [Sc.dats_len]; simpa using h)
theorem Sc.view {w : World} {x : Sc} {cs : List Value} (h : RdD w x.dat cs) : ∃ v0 v1, cs = [v0, v1] ∧ RdN w v0 x.name ∧ RdL w 3 v1 (Pa.dats x.fields) := by
  obtain ⟨name, fields⟩ := x
  rw [Sc.dat, RdD] at h
  rw [RdAgg] at h
  obtain ⟨c0, d0, rfl, h0, h⟩ := h
  obtain ⟨u0, rfl, k0⟩ := RdN.iff.1 h0
  rw [RdAgg] at h
  obtain ⟨c1, d1, rfl, h1, h⟩ := h
  obtain ⟨u1, rfl, k1⟩ := RdL.iff.1 h1
  rw [RdAgg] at h
  subst h
  exact ⟨u0, u1, rfl, k0, k1⟩
theorem Sc.unview {w : World} {x : Sc} {v0 v1 : Value} (h0 : RdN w v0 x.name) (h1 : RdL w 3 v1 (Pa.dats x.fields)) : RdD w x.dat [v0, v1] := by
  obtain ⟨name, fields⟩ := x
  rw [Sc.dat, RdD]
  rw [RdAgg]
  refine ⟨[_], _, rfl, RdN.iff.2 ⟨_, rfl, h0⟩, ?_⟩
  rw [RdAgg]
  refine ⟨[_], _, rfl, RdL.iff.2 ⟨_, rfl, h1⟩, ?_⟩
  rw [RdAgg]
theorem Sc.slice {w : World} {v : Value} {l : List Sc} (h : RdL w 2 v (Sc.dats l)) : ∃ a cap, v = .slice a l.length cap ∧ (l.length : Int) ≤ 9223372036854775807 := by
  obtain ⟨a, cap, e, hl⟩ := h.slice
  rw [Sc.dats_len] at e hl
  exact ⟨a, cap, e, hl⟩
theorem Sc.elem {w : World} {a : Option Addr} {n cap : Nat} {l : List Sc} (h : RdL w 2 (.slice a n cap) (Sc.dats l)) (j : Nat) (hj : j < l.length) : ∃ g off v0 v1, a = some ⟨g, off, none⟩ ∧ g < w.heap.size ∧ w.cell? ⟨g, off + j * 2, none⟩ = some (v0) ∧ w.cell? ⟨g, off + j * 2 + 1, none⟩ = some (v1) ∧ RdN w v0 l[j].name ∧ RdL w 3 v1 (Pa.dats l[j].fields) := by
  obtain ⟨_, _, e, _, h⟩ := h
  cases e
  obtain ⟨g, off, cs, rfl, hg, hk, hc, hd⟩ := h j (by rw [Sc.dats_len]; exact hj)
  rw [Sc.dats_at l j hj] at hd
  obtain ⟨v0, v1, rfl, r0, r1⟩ := Sc.view hd
  exact ⟨g, off, v0, v1, rfl, hg, hc 0 _ rfl, hc 1 _ rfl, r0, r1⟩
theorem Sc.szs_ge (l : List Sc) : l.length ≤ Sc.szs l := by
  induction l with
  | nil => exact Nat.le_refl _
  | cons x r ih => rw [Sc.szs, List.length_cons]; omega
theorem Sc.sz_at : ∀ (l : List Sc) (j : Nat) (h : j < l.length), l[j].sz + l.length ≤ Sc.szs l
  | x :: r, 0, _ => by rw [Sc.szs]; have := Sc.szs_ge r; simp only [List.getElem_cons_zero, List.length_cons]; omega
  | x :: r, j + 1, h => by rw [Sc.szs]; have := Sc.sz_at r j (by simpa using h); simp only [List.getElem_cons_succ, List.length_cons]; omega
/-- What the first k take, their number aside. -/
def Sc.pre (l : List Sc) (k : Nat) : Nat := Sc.szs (l.take k) - k
theorem Sc.pre_zero (l : List Sc) : Sc.pre l 0 = 0 := rfl
theorem Sc.szs_app (l r : List Sc) : Sc.szs (l ++ r) = Sc.szs l + Sc.szs r := by
  induction l with
  | nil => rw [List.nil_append, Sc.szs, Nat.zero_add]
  | cons x l ih => rw [List.cons_append, Sc.szs, Sc.szs, ih]; omega
theorem Sc.pre_succ {l : List Sc} {k : Nat} (h : k < l.length) : Sc.pre l (k + 1) = Sc.pre l k + l[k].sz := by
  unfold Sc.pre
  rw [List.take_succ_eq_append_getElem h, Sc.szs_app, Sc.szs, Sc.szs]
  have := Sc.szs_ge (l.take k)
  rw [List.length_take, Nat.min_eq_left (by omega)] at this
  omega
theorem Sc.pre_all (l : List Sc) : l.length + Sc.pre l l.length = Sc.szs l := by
  unfold Sc.pre
  rw [List.take_length]
  have := Sc.szs_ge l
  omega
theorem Sc.pre_le (l : List Sc) (k : Nat) (h : k ≤ l.length) : l.length + Sc.pre l k ≤ Sc.szs l := by
  have e : Sc.szs l = Sc.szs (l.take k) + Sc.szs (l.drop k) := by rw [← Sc.szs_app, List.take_append_drop]
  have h1 := Sc.szs_ge (l.take k)
  have h2 := Sc.szs_ge (l.drop k)
  rw [List.length_take, Nat.min_eq_left h] at h1
  rw [List.length_drop] at h2
  unfold Sc.pre
  omega

inductive Ex where
  | mk (kind : Int) (n : Int) (tk : Int) (tn : Int) (name : List Int) (kids : List Ex)
def Ex.kind : Ex → Int | .mk x _ _ _ _ _ => x
def Ex.n : Ex → Int | .mk _ x _ _ _ _ => x
def Ex.tk : Ex → Int | .mk _ _ x _ _ _ => x
def Ex.tn : Ex → Int | .mk _ _ _ x _ _ => x
def Ex.name : Ex → List Int | .mk _ _ _ _ x _ => x
def Ex.kids : Ex → List Ex | .mk _ _ _ _ _ x => x
mutual
def Ex.dat : Ex → Dat
  | .mk kind n tk tn name kids => .agg [.int kind, .int n, .int tk, .int tn, .bytes name, .list 6 (Ex.dats kids)]
def Ex.dats : List Ex → List Dat
  | [] => []
  | x :: r => x.dat :: Ex.dats r
end
mutual
def Ex.sz : Ex → Nat
  | .mk _ _ _ _ name kids => name.length + Ex.szs kids
def Ex.szs : List Ex → Nat
  | [] => 0
  | x :: r => 1 + x.sz + Ex.szs r
end
theorem Ex.dats_len (l : List Ex) : (Ex.dats l).length = l.length := by
  induction l with
  | nil => rfl
  | cons x r ih => rw [Ex.dats, List.length_cons, List.length_cons, ih]
theorem Ex.dats_at : ∀ (l : List Ex) (j : Nat) (h : j < l.length) (h' : j < (Ex.dats l).length), (Ex.dats l)[j] = l[j].dat
  | x :: r, 0, _, _ => rfl
  | x :: r, j + 1, h, h' => Ex.dats_at r j (by simpa using h) (by rw [Ex.dats_len]; simpa using h)
theorem Ex.view {w : World} {x : Ex} {cs : List Value} (h : RdD w x.dat cs) : ∃ v0 v1, cs = [.int .i64 x.kind, .int .i64 x.n, .int .i64 x.tk, .int .i64 x.tn, v0, v1] ∧ RdN w v0 x.name ∧ RdL w 6 v1 (Ex.dats x.kids) := by
  obtain ⟨kind, n, tk, tn, name, kids⟩ := x
  rw [Ex.dat, RdD] at h
  rw [RdAgg] at h
  obtain ⟨c0, d0, rfl, h0, h⟩ := h
  rw [RdD] at h0
  subst h0
  rw [RdAgg] at h
  obtain ⟨c1, d1, rfl, h1, h⟩ := h
  rw [RdD] at h1
  subst h1
  rw [RdAgg] at h
  obtain ⟨c2, d2, rfl, h2, h⟩ := h
  rw [RdD] at h2
  subst h2
  rw [RdAgg] at h
  obtain ⟨c3, d3, rfl, h3, h⟩ := h
  rw [RdD] at h3
  subst h3
  rw [RdAgg] at h
  obtain ⟨c4, d4, rfl, h4, h⟩ := h
  obtain ⟨u4, rfl, k4⟩ := RdN.iff.1 h4
  rw [RdAgg] at h
  obtain ⟨c5, d5, rfl, h5, h⟩ := h
  obtain ⟨u5, rfl, k5⟩ := RdL.iff.1 h5
  rw [RdAgg] at h
  subst h
  exact ⟨u4, u5, rfl, k4, k5⟩
theorem Ex.unview {w : World} {x : Ex} {v0 v1 : Value} (h0 : RdN w v0 x.name) (h1 : RdL w 6 v1 (Ex.dats x.kids)) : RdD w x.dat [.int .i64 x.kind, .int .i64 x.n, .int .i64 x.tk, .int .i64 x.tn, v0, v1] := by
  obtain ⟨kind, n, tk, tn, name, kids⟩ := x
  rw [Ex.dat, RdD]
  rw [RdAgg]
  refine ⟨[_], _, rfl, by rw [RdD]; rfl, ?_⟩
  rw [RdAgg]
  refine ⟨[_], _, rfl, by rw [RdD]; rfl, ?_⟩
  rw [RdAgg]
  refine ⟨[_], _, rfl, by rw [RdD]; rfl, ?_⟩
  rw [RdAgg]
  refine ⟨[_], _, rfl, by rw [RdD]; rfl, ?_⟩
  rw [RdAgg]
  refine ⟨[_], _, rfl, RdN.iff.2 ⟨_, rfl, h0⟩, ?_⟩
  rw [RdAgg]
  refine ⟨[_], _, rfl, RdL.iff.2 ⟨_, rfl, h1⟩, ?_⟩
  rw [RdAgg]
theorem Ex.slice {w : World} {v : Value} {l : List Ex} (h : RdL w 6 v (Ex.dats l)) : ∃ a cap, v = .slice a l.length cap ∧ (l.length : Int) ≤ 9223372036854775807 := by
  obtain ⟨a, cap, e, hl⟩ := h.slice
  rw [Ex.dats_len] at e hl
  exact ⟨a, cap, e, hl⟩
theorem Ex.elem {w : World} {a : Option Addr} {n cap : Nat} {l : List Ex} (h : RdL w 6 (.slice a n cap) (Ex.dats l)) (j : Nat) (hj : j < l.length) : ∃ g off v0 v1, a = some ⟨g, off, none⟩ ∧ g < w.heap.size ∧ w.cell? ⟨g, off + j * 6, none⟩ = some (.int .i64 l[j].kind) ∧ w.cell? ⟨g, off + j * 6 + 1, none⟩ = some (.int .i64 l[j].n) ∧ w.cell? ⟨g, off + j * 6 + 2, none⟩ = some (.int .i64 l[j].tk) ∧ w.cell? ⟨g, off + j * 6 + 3, none⟩ = some (.int .i64 l[j].tn) ∧ w.cell? ⟨g, off + j * 6 + 4, none⟩ = some (v0) ∧ w.cell? ⟨g, off + j * 6 + 5, none⟩ = some (v1) ∧ RdN w v0 l[j].name ∧ RdL w 6 v1 (Ex.dats l[j].kids) := by
  obtain ⟨_, _, e, _, h⟩ := h
  cases e
  obtain ⟨g, off, cs, rfl, hg, hk, hc, hd⟩ := h j (by rw [Ex.dats_len]; exact hj)
  rw [Ex.dats_at l j hj] at hd
  obtain ⟨v0, v1, rfl, r0, r1⟩ := Ex.view hd
  exact ⟨g, off, v0, v1, rfl, hg, hc 0 _ rfl, hc 1 _ rfl, hc 2 _ rfl, hc 3 _ rfl, hc 4 _ rfl, hc 5 _ rfl, r0, r1⟩
theorem Ex.szs_ge (l : List Ex) : l.length ≤ Ex.szs l := by
  induction l with
  | nil => exact Nat.le_refl _
  | cons x r ih => rw [Ex.szs, List.length_cons]; omega
theorem Ex.sz_at : ∀ (l : List Ex) (j : Nat) (h : j < l.length), l[j].sz + l.length ≤ Ex.szs l
  | x :: r, 0, _ => by rw [Ex.szs]; have := Ex.szs_ge r; simp only [List.getElem_cons_zero, List.length_cons]; omega
  | x :: r, j + 1, h => by rw [Ex.szs]; have := Ex.sz_at r j (by simpa using h); simp only [List.getElem_cons_succ, List.length_cons]; omega
/-- What the first k take, their number aside. -/
def Ex.pre (l : List Ex) (k : Nat) : Nat := Ex.szs (l.take k) - k
theorem Ex.pre_zero (l : List Ex) : Ex.pre l 0 = 0 := rfl
theorem Ex.szs_app (l r : List Ex) : Ex.szs (l ++ r) = Ex.szs l + Ex.szs r := by
  induction l with
  | nil => rw [List.nil_append, Ex.szs, Nat.zero_add]
  | cons x l ih => rw [List.cons_append, Ex.szs, Ex.szs, ih]; omega
theorem Ex.pre_succ {l : List Ex} {k : Nat} (h : k < l.length) : Ex.pre l (k + 1) = Ex.pre l k + l[k].sz := by
  unfold Ex.pre
  rw [List.take_succ_eq_append_getElem h, Ex.szs_app, Ex.szs, Ex.szs]
  have := Ex.szs_ge (l.take k)
  rw [List.length_take, Nat.min_eq_left (by omega)] at this
  omega
theorem Ex.pre_all (l : List Ex) : l.length + Ex.pre l l.length = Ex.szs l := by
  unfold Ex.pre
  rw [List.take_length]
  have := Ex.szs_ge l
  omega
theorem Ex.pre_le (l : List Ex) (k : Nat) (h : k ≤ l.length) : l.length + Ex.pre l k ≤ Ex.szs l := by
  have e : Ex.szs l = Ex.szs (l.take k) + Ex.szs (l.drop k) := by rw [← Ex.szs_app, List.take_append_drop]
  have h1 := Ex.szs_ge (l.take k)
  have h2 := Ex.szs_ge (l.drop k)
  rw [List.length_take, Nat.min_eq_left h] at h1
  rw [List.length_drop] at h2
  unfold Ex.pre
  omega

inductive St where
  | mk (kind : Int) (n : Int) (tk : Int) (tn : Int) (name : List Int) (kids : List Ex) (body : List St) (els : List St)
def St.kind : St → Int | .mk x _ _ _ _ _ _ _ => x
def St.n : St → Int | .mk _ x _ _ _ _ _ _ => x
def St.tk : St → Int | .mk _ _ x _ _ _ _ _ => x
def St.tn : St → Int | .mk _ _ _ x _ _ _ _ => x
def St.name : St → List Int | .mk _ _ _ _ x _ _ _ => x
def St.kids : St → List Ex | .mk _ _ _ _ _ x _ _ => x
def St.body : St → List St | .mk _ _ _ _ _ _ x _ => x
def St.els : St → List St | .mk _ _ _ _ _ _ _ x => x
mutual
def St.dat : St → Dat
  | .mk kind n tk tn name kids body els => .agg [.int kind, .int n, .int tk, .int tn, .bytes name, .list 6 (Ex.dats kids), .list 8 (St.dats body), .list 8 (St.dats els)]
def St.dats : List St → List Dat
  | [] => []
  | x :: r => x.dat :: St.dats r
end
mutual
def St.sz : St → Nat
  | .mk _ _ _ _ name kids body els => name.length + Ex.szs kids + St.szs body + St.szs els
def St.szs : List St → Nat
  | [] => 0
  | x :: r => 1 + x.sz + St.szs r
end
theorem St.dats_len (l : List St) : (St.dats l).length = l.length := by
  induction l with
  | nil => rfl
  | cons x r ih => rw [St.dats, List.length_cons, List.length_cons, ih]
theorem St.dats_at : ∀ (l : List St) (j : Nat) (h : j < l.length) (h' : j < (St.dats l).length), (St.dats l)[j] = l[j].dat
  | x :: r, 0, _, _ => rfl
  | x :: r, j + 1, h, h' => St.dats_at r j (by simpa using h) (by rw [St.dats_len]; simpa using h)
theorem St.view {w : World} {x : St} {cs : List Value} (h : RdD w x.dat cs) : ∃ v0 v1 v2 v3, cs = [.int .i64 x.kind, .int .i64 x.n, .int .i64 x.tk, .int .i64 x.tn, v0, v1, v2, v3] ∧ RdN w v0 x.name ∧ RdL w 6 v1 (Ex.dats x.kids) ∧ RdL w 8 v2 (St.dats x.body) ∧ RdL w 8 v3 (St.dats x.els) := by
  obtain ⟨kind, n, tk, tn, name, kids, body, els⟩ := x
  rw [St.dat, RdD] at h
  rw [RdAgg] at h
  obtain ⟨c0, d0, rfl, h0, h⟩ := h
  rw [RdD] at h0
  subst h0
  rw [RdAgg] at h
  obtain ⟨c1, d1, rfl, h1, h⟩ := h
  rw [RdD] at h1
  subst h1
  rw [RdAgg] at h
  obtain ⟨c2, d2, rfl, h2, h⟩ := h
  rw [RdD] at h2
  subst h2
  rw [RdAgg] at h
  obtain ⟨c3, d3, rfl, h3, h⟩ := h
  rw [RdD] at h3
  subst h3
  rw [RdAgg] at h
  obtain ⟨c4, d4, rfl, h4, h⟩ := h
  obtain ⟨u4, rfl, k4⟩ := RdN.iff.1 h4
  rw [RdAgg] at h
  obtain ⟨c5, d5, rfl, h5, h⟩ := h
  obtain ⟨u5, rfl, k5⟩ := RdL.iff.1 h5
  rw [RdAgg] at h
  obtain ⟨c6, d6, rfl, h6, h⟩ := h
  obtain ⟨u6, rfl, k6⟩ := RdL.iff.1 h6
  rw [RdAgg] at h
  obtain ⟨c7, d7, rfl, h7, h⟩ := h
  obtain ⟨u7, rfl, k7⟩ := RdL.iff.1 h7
  rw [RdAgg] at h
  subst h
  exact ⟨u4, u5, u6, u7, rfl, k4, k5, k6, k7⟩
theorem St.unview {w : World} {x : St} {v0 v1 v2 v3 : Value} (h0 : RdN w v0 x.name) (h1 : RdL w 6 v1 (Ex.dats x.kids)) (h2 : RdL w 8 v2 (St.dats x.body)) (h3 : RdL w 8 v3 (St.dats x.els)) : RdD w x.dat [.int .i64 x.kind, .int .i64 x.n, .int .i64 x.tk, .int .i64 x.tn, v0, v1, v2, v3] := by
  obtain ⟨kind, n, tk, tn, name, kids, body, els⟩ := x
  rw [St.dat, RdD]
  rw [RdAgg]
  refine ⟨[_], _, rfl, by rw [RdD]; rfl, ?_⟩
  rw [RdAgg]
  refine ⟨[_], _, rfl, by rw [RdD]; rfl, ?_⟩
  rw [RdAgg]
  refine ⟨[_], _, rfl, by rw [RdD]; rfl, ?_⟩
  rw [RdAgg]
  refine ⟨[_], _, rfl, by rw [RdD]; rfl, ?_⟩
  rw [RdAgg]
  refine ⟨[_], _, rfl, RdN.iff.2 ⟨_, rfl, h0⟩, ?_⟩
  rw [RdAgg]
  refine ⟨[_], _, rfl, RdL.iff.2 ⟨_, rfl, h1⟩, ?_⟩
  rw [RdAgg]
  refine ⟨[_], _, rfl, RdL.iff.2 ⟨_, rfl, h2⟩, ?_⟩
  rw [RdAgg]
  refine ⟨[_], _, rfl, RdL.iff.2 ⟨_, rfl, h3⟩, ?_⟩
  rw [RdAgg]
theorem St.slice {w : World} {v : Value} {l : List St} (h : RdL w 8 v (St.dats l)) : ∃ a cap, v = .slice a l.length cap ∧ (l.length : Int) ≤ 9223372036854775807 := by
  obtain ⟨a, cap, e, hl⟩ := h.slice
  rw [St.dats_len] at e hl
  exact ⟨a, cap, e, hl⟩
theorem St.elem {w : World} {a : Option Addr} {n cap : Nat} {l : List St} (h : RdL w 8 (.slice a n cap) (St.dats l)) (j : Nat) (hj : j < l.length) : ∃ g off v0 v1 v2 v3, a = some ⟨g, off, none⟩ ∧ g < w.heap.size ∧ w.cell? ⟨g, off + j * 8, none⟩ = some (.int .i64 l[j].kind) ∧ w.cell? ⟨g, off + j * 8 + 1, none⟩ = some (.int .i64 l[j].n) ∧ w.cell? ⟨g, off + j * 8 + 2, none⟩ = some (.int .i64 l[j].tk) ∧ w.cell? ⟨g, off + j * 8 + 3, none⟩ = some (.int .i64 l[j].tn) ∧ w.cell? ⟨g, off + j * 8 + 4, none⟩ = some (v0) ∧ w.cell? ⟨g, off + j * 8 + 5, none⟩ = some (v1) ∧ w.cell? ⟨g, off + j * 8 + 6, none⟩ = some (v2) ∧ w.cell? ⟨g, off + j * 8 + 7, none⟩ = some (v3) ∧ RdN w v0 l[j].name ∧ RdL w 6 v1 (Ex.dats l[j].kids) ∧ RdL w 8 v2 (St.dats l[j].body) ∧ RdL w 8 v3 (St.dats l[j].els) := by
  obtain ⟨_, _, e, _, h⟩ := h
  cases e
  obtain ⟨g, off, cs, rfl, hg, hk, hc, hd⟩ := h j (by rw [St.dats_len]; exact hj)
  rw [St.dats_at l j hj] at hd
  obtain ⟨v0, v1, v2, v3, rfl, r0, r1, r2, r3⟩ := St.view hd
  exact ⟨g, off, v0, v1, v2, v3, rfl, hg, hc 0 _ rfl, hc 1 _ rfl, hc 2 _ rfl, hc 3 _ rfl, hc 4 _ rfl, hc 5 _ rfl, hc 6 _ rfl, hc 7 _ rfl, r0, r1, r2, r3⟩
theorem St.szs_ge (l : List St) : l.length ≤ St.szs l := by
  induction l with
  | nil => exact Nat.le_refl _
  | cons x r ih => rw [St.szs, List.length_cons]; omega
theorem St.sz_at : ∀ (l : List St) (j : Nat) (h : j < l.length), l[j].sz + l.length ≤ St.szs l
  | x :: r, 0, _ => by rw [St.szs]; have := St.szs_ge r; simp only [List.getElem_cons_zero, List.length_cons]; omega
  | x :: r, j + 1, h => by rw [St.szs]; have := St.sz_at r j (by simpa using h); simp only [List.getElem_cons_succ, List.length_cons]; omega
/-- What the first k take, their number aside. -/
def St.pre (l : List St) (k : Nat) : Nat := St.szs (l.take k) - k
theorem St.pre_zero (l : List St) : St.pre l 0 = 0 := rfl
theorem St.szs_app (l r : List St) : St.szs (l ++ r) = St.szs l + St.szs r := by
  induction l with
  | nil => rw [List.nil_append, St.szs, Nat.zero_add]
  | cons x l ih => rw [List.cons_append, St.szs, St.szs, ih]; omega
theorem St.pre_succ {l : List St} {k : Nat} (h : k < l.length) : St.pre l (k + 1) = St.pre l k + l[k].sz := by
  unfold St.pre
  rw [List.take_succ_eq_append_getElem h, St.szs_app, St.szs, St.szs]
  have := St.szs_ge (l.take k)
  rw [List.length_take, Nat.min_eq_left (by omega)] at this
  omega
theorem St.pre_all (l : List St) : l.length + St.pre l l.length = St.szs l := by
  unfold St.pre
  rw [List.take_length]
  have := St.szs_ge l
  omega
theorem St.pre_le (l : List St) (k : Nat) (h : k ≤ l.length) : l.length + St.pre l k ≤ St.szs l := by
  have e : St.szs l = St.szs (l.take k) + St.szs (l.drop k) := by rw [← St.szs_app, List.take_append_drop]
  have h1 := St.szs_ge (l.take k)
  have h2 := St.szs_ge (l.drop k)
  rw [List.length_take, Nat.min_eq_left h] at h1
  rw [List.length_drop] at h2
  unfold St.pre
  omega

inductive Fu where
  | mk (name : List Int) (params : List Pa) (rk : Int) (rn : Int) (body : List St)
def Fu.name : Fu → List Int | .mk x _ _ _ _ => x
def Fu.params : Fu → List Pa | .mk _ x _ _ _ => x
def Fu.rk : Fu → Int | .mk _ _ x _ _ => x
def Fu.rn : Fu → Int | .mk _ _ _ x _ => x
def Fu.body : Fu → List St | .mk _ _ _ _ x => x
def Fu.dat : Fu → Dat
  | .mk name params rk rn body => .agg [.bytes name, .list 3 (Pa.dats params), .int rk, .int rn, .list 8 (St.dats body)]
def Fu.dats : List Fu → List Dat
  | [] => []
  | x :: r => x.dat :: Fu.dats r
def Fu.sz : Fu → Nat
  | .mk name params _ _ body => name.length + Pa.szs params + St.szs body
def Fu.szs : List Fu → Nat
  | [] => 0
  | x :: r => 1 + x.sz + Fu.szs r
theorem Fu.dats_len (l : List Fu) : (Fu.dats l).length = l.length := by
  induction l with
  | nil => rfl
  | cons x r ih => rw [Fu.dats, List.length_cons, List.length_cons, ih]
theorem Fu.dats_at : ∀ (l : List Fu) (j : Nat) (h : j < l.length) (h' : j < (Fu.dats l).length), (Fu.dats l)[j] = l[j].dat
  | x :: r, 0, _, _ => rfl
  | x :: r, j + 1, h, h' => Fu.dats_at r j (by simpa using h) (by rw [Fu.dats_len]; simpa using h)
theorem Fu.view {w : World} {x : Fu} {cs : List Value} (h : RdD w x.dat cs) : ∃ v0 v1 v2, cs = [v0, v1, .int .i64 x.rk, .int .i64 x.rn, v2] ∧ RdN w v0 x.name ∧ RdL w 3 v1 (Pa.dats x.params) ∧ RdL w 8 v2 (St.dats x.body) := by
  obtain ⟨name, params, rk, rn, body⟩ := x
  rw [Fu.dat, RdD] at h
  rw [RdAgg] at h
  obtain ⟨c0, d0, rfl, h0, h⟩ := h
  obtain ⟨u0, rfl, k0⟩ := RdN.iff.1 h0
  rw [RdAgg] at h
  obtain ⟨c1, d1, rfl, h1, h⟩ := h
  obtain ⟨u1, rfl, k1⟩ := RdL.iff.1 h1
  rw [RdAgg] at h
  obtain ⟨c2, d2, rfl, h2, h⟩ := h
  rw [RdD] at h2
  subst h2
  rw [RdAgg] at h
  obtain ⟨c3, d3, rfl, h3, h⟩ := h
  rw [RdD] at h3
  subst h3
  rw [RdAgg] at h
  obtain ⟨c4, d4, rfl, h4, h⟩ := h
  obtain ⟨u4, rfl, k4⟩ := RdL.iff.1 h4
  rw [RdAgg] at h
  subst h
  exact ⟨u0, u1, u4, rfl, k0, k1, k4⟩
theorem Fu.unview {w : World} {x : Fu} {v0 v1 v2 : Value} (h0 : RdN w v0 x.name) (h1 : RdL w 3 v1 (Pa.dats x.params)) (h2 : RdL w 8 v2 (St.dats x.body)) : RdD w x.dat [v0, v1, .int .i64 x.rk, .int .i64 x.rn, v2] := by
  obtain ⟨name, params, rk, rn, body⟩ := x
  rw [Fu.dat, RdD]
  rw [RdAgg]
  refine ⟨[_], _, rfl, RdN.iff.2 ⟨_, rfl, h0⟩, ?_⟩
  rw [RdAgg]
  refine ⟨[_], _, rfl, RdL.iff.2 ⟨_, rfl, h1⟩, ?_⟩
  rw [RdAgg]
  refine ⟨[_], _, rfl, by rw [RdD]; rfl, ?_⟩
  rw [RdAgg]
  refine ⟨[_], _, rfl, by rw [RdD]; rfl, ?_⟩
  rw [RdAgg]
  refine ⟨[_], _, rfl, RdL.iff.2 ⟨_, rfl, h2⟩, ?_⟩
  rw [RdAgg]
theorem Fu.slice {w : World} {v : Value} {l : List Fu} (h : RdL w 5 v (Fu.dats l)) : ∃ a cap, v = .slice a l.length cap ∧ (l.length : Int) ≤ 9223372036854775807 := by
  obtain ⟨a, cap, e, hl⟩ := h.slice
  rw [Fu.dats_len] at e hl
  exact ⟨a, cap, e, hl⟩
theorem Fu.elem {w : World} {a : Option Addr} {n cap : Nat} {l : List Fu} (h : RdL w 5 (.slice a n cap) (Fu.dats l)) (j : Nat) (hj : j < l.length) : ∃ g off v0 v1 v2, a = some ⟨g, off, none⟩ ∧ g < w.heap.size ∧ w.cell? ⟨g, off + j * 5, none⟩ = some (v0) ∧ w.cell? ⟨g, off + j * 5 + 1, none⟩ = some (v1) ∧ w.cell? ⟨g, off + j * 5 + 2, none⟩ = some (.int .i64 l[j].rk) ∧ w.cell? ⟨g, off + j * 5 + 3, none⟩ = some (.int .i64 l[j].rn) ∧ w.cell? ⟨g, off + j * 5 + 4, none⟩ = some (v2) ∧ RdN w v0 l[j].name ∧ RdL w 3 v1 (Pa.dats l[j].params) ∧ RdL w 8 v2 (St.dats l[j].body) := by
  obtain ⟨_, _, e, _, h⟩ := h
  cases e
  obtain ⟨g, off, cs, rfl, hg, hk, hc, hd⟩ := h j (by rw [Fu.dats_len]; exact hj)
  rw [Fu.dats_at l j hj] at hd
  obtain ⟨v0, v1, v2, rfl, r0, r1, r2⟩ := Fu.view hd
  exact ⟨g, off, v0, v1, v2, rfl, hg, hc 0 _ rfl, hc 1 _ rfl, hc 2 _ rfl, hc 3 _ rfl, hc 4 _ rfl, r0, r1, r2⟩
theorem Fu.szs_ge (l : List Fu) : l.length ≤ Fu.szs l := by
  induction l with
  | nil => exact Nat.le_refl _
  | cons x r ih => rw [Fu.szs, List.length_cons]; omega
theorem Fu.sz_at : ∀ (l : List Fu) (j : Nat) (h : j < l.length), l[j].sz + l.length ≤ Fu.szs l
  | x :: r, 0, _ => by rw [Fu.szs]; have := Fu.szs_ge r; simp only [List.getElem_cons_zero, List.length_cons]; omega
  | x :: r, j + 1, h => by rw [Fu.szs]; have := Fu.sz_at r j (by simpa using h); simp only [List.getElem_cons_succ, List.length_cons]; omega
/-- What the first k take, their number aside. -/
def Fu.pre (l : List Fu) (k : Nat) : Nat := Fu.szs (l.take k) - k
theorem Fu.pre_zero (l : List Fu) : Fu.pre l 0 = 0 := rfl
theorem Fu.szs_app (l r : List Fu) : Fu.szs (l ++ r) = Fu.szs l + Fu.szs r := by
  induction l with
  | nil => rw [List.nil_append, Fu.szs, Nat.zero_add]
  | cons x l ih => rw [List.cons_append, Fu.szs, Fu.szs, ih]; omega
theorem Fu.pre_succ {l : List Fu} {k : Nat} (h : k < l.length) : Fu.pre l (k + 1) = Fu.pre l k + l[k].sz := by
  unfold Fu.pre
  rw [List.take_succ_eq_append_getElem h, Fu.szs_app, Fu.szs, Fu.szs]
  have := Fu.szs_ge (l.take k)
  rw [List.length_take, Nat.min_eq_left (by omega)] at this
  omega
theorem Fu.pre_all (l : List Fu) : l.length + Fu.pre l l.length = Fu.szs l := by
  unfold Fu.pre
  rw [List.take_length]
  have := Fu.szs_ge l
  omega
theorem Fu.pre_le (l : List Fu) (k : Nat) (h : k ≤ l.length) : l.length + Fu.pre l k ≤ Fu.szs l := by
  have e : Fu.szs l = Fu.szs (l.take k) + Fu.szs (l.drop k) := by rw [← Fu.szs_app, List.take_append_drop]
  have h1 := Fu.szs_ge (l.take k)
  have h2 := Fu.szs_ge (l.drop k)
  rw [List.length_take, Nat.min_eq_left h] at h1
  rw [List.length_drop] at h2
  unfold Fu.pre
  omega

inductive So where
  | mk (structs : List Sc) (funcs : List Fu)
def So.structs : So → List Sc | .mk x _ => x
def So.funcs : So → List Fu | .mk _ x => x
def So.dat : So → Dat
  | .mk structs funcs => .agg [.list 2 (Sc.dats structs), .list 5 (Fu.dats funcs)]
def So.dats : List So → List Dat
  | [] => []
  | x :: r => x.dat :: So.dats r
def So.sz : So → Nat
  | .mk structs funcs => Sc.szs structs + Fu.szs funcs
def So.szs : List So → Nat
  | [] => 0
  | x :: r => 1 + x.sz + So.szs r
theorem So.dats_len (l : List So) : (So.dats l).length = l.length := by
  induction l with
  | nil => rfl
  | cons x r ih => rw [So.dats, List.length_cons, List.length_cons, ih]
theorem So.dats_at : ∀ (l : List So) (j : Nat) (h : j < l.length) (h' : j < (So.dats l).length), (So.dats l)[j] = l[j].dat
  | x :: r, 0, _, _ => rfl
  | x :: r, j + 1, h, h' => So.dats_at r j (by simpa using h) (by rw [So.dats_len]; simpa using h)
theorem So.view {w : World} {x : So} {cs : List Value} (h : RdD w x.dat cs) : ∃ v0 v1, cs = [v0, v1] ∧ RdL w 2 v0 (Sc.dats x.structs) ∧ RdL w 5 v1 (Fu.dats x.funcs) := by
  obtain ⟨structs, funcs⟩ := x
  rw [So.dat, RdD] at h
  rw [RdAgg] at h
  obtain ⟨c0, d0, rfl, h0, h⟩ := h
  obtain ⟨u0, rfl, k0⟩ := RdL.iff.1 h0
  rw [RdAgg] at h
  obtain ⟨c1, d1, rfl, h1, h⟩ := h
  obtain ⟨u1, rfl, k1⟩ := RdL.iff.1 h1
  rw [RdAgg] at h
  subst h
  exact ⟨u0, u1, rfl, k0, k1⟩
theorem So.unview {w : World} {x : So} {v0 v1 : Value} (h0 : RdL w 2 v0 (Sc.dats x.structs)) (h1 : RdL w 5 v1 (Fu.dats x.funcs)) : RdD w x.dat [v0, v1] := by
  obtain ⟨structs, funcs⟩ := x
  rw [So.dat, RdD]
  rw [RdAgg]
  refine ⟨[_], _, rfl, RdL.iff.2 ⟨_, rfl, h0⟩, ?_⟩
  rw [RdAgg]
  refine ⟨[_], _, rfl, RdL.iff.2 ⟨_, rfl, h1⟩, ?_⟩
  rw [RdAgg]
theorem So.slice {w : World} {v : Value} {l : List So} (h : RdL w 2 v (So.dats l)) : ∃ a cap, v = .slice a l.length cap ∧ (l.length : Int) ≤ 9223372036854775807 := by
  obtain ⟨a, cap, e, hl⟩ := h.slice
  rw [So.dats_len] at e hl
  exact ⟨a, cap, e, hl⟩
theorem So.elem {w : World} {a : Option Addr} {n cap : Nat} {l : List So} (h : RdL w 2 (.slice a n cap) (So.dats l)) (j : Nat) (hj : j < l.length) : ∃ g off v0 v1, a = some ⟨g, off, none⟩ ∧ g < w.heap.size ∧ w.cell? ⟨g, off + j * 2, none⟩ = some (v0) ∧ w.cell? ⟨g, off + j * 2 + 1, none⟩ = some (v1) ∧ RdL w 2 v0 (Sc.dats l[j].structs) ∧ RdL w 5 v1 (Fu.dats l[j].funcs) := by
  obtain ⟨_, _, e, _, h⟩ := h
  cases e
  obtain ⟨g, off, cs, rfl, hg, hk, hc, hd⟩ := h j (by rw [So.dats_len]; exact hj)
  rw [So.dats_at l j hj] at hd
  obtain ⟨v0, v1, rfl, r0, r1⟩ := So.view hd
  exact ⟨g, off, v0, v1, rfl, hg, hc 0 _ rfl, hc 1 _ rfl, r0, r1⟩
theorem So.szs_ge (l : List So) : l.length ≤ So.szs l := by
  induction l with
  | nil => exact Nat.le_refl _
  | cons x r ih => rw [So.szs, List.length_cons]; omega
theorem So.sz_at : ∀ (l : List So) (j : Nat) (h : j < l.length), l[j].sz + l.length ≤ So.szs l
  | x :: r, 0, _ => by rw [So.szs]; have := So.szs_ge r; simp only [List.getElem_cons_zero, List.length_cons]; omega
  | x :: r, j + 1, h => by rw [So.szs]; have := So.sz_at r j (by simpa using h); simp only [List.getElem_cons_succ, List.length_cons]; omega
/-- What the first k take, their number aside. -/
def So.pre (l : List So) (k : Nat) : Nat := So.szs (l.take k) - k
theorem So.pre_zero (l : List So) : So.pre l 0 = 0 := rfl
theorem So.szs_app (l r : List So) : So.szs (l ++ r) = So.szs l + So.szs r := by
  induction l with
  | nil => rw [List.nil_append, So.szs, Nat.zero_add]
  | cons x l ih => rw [List.cons_append, So.szs, So.szs, ih]; omega
theorem So.pre_succ {l : List So} {k : Nat} (h : k < l.length) : So.pre l (k + 1) = So.pre l k + l[k].sz := by
  unfold So.pre
  rw [List.take_succ_eq_append_getElem h, So.szs_app, So.szs, So.szs]
  have := So.szs_ge (l.take k)
  rw [List.length_take, Nat.min_eq_left (by omega)] at this
  omega
theorem So.pre_all (l : List So) : l.length + So.pre l l.length = So.szs l := by
  unfold So.pre
  rw [List.take_length]
  have := So.szs_ge l
  omega
theorem So.pre_le (l : List So) (k : Nat) (h : k ≤ l.length) : l.length + So.pre l k ≤ So.szs l := by
  have e : So.szs l = So.szs (l.take k) + So.szs (l.drop k) := by rw [← So.szs_app, List.take_append_drop]
  have h1 := So.szs_ge (l.take k)
  have h2 := So.szs_ge (l.drop k)
  rw [List.length_take, Nat.min_eq_left h] at h1
  rw [List.length_drop] at h2
  unfold So.pre
  omega

end Go.Proofs.YtleakieppapjmaaDoor
