/- Typed trees: what they are as data, and what their cells hold. -/
import Derived.Test.YtlfkjjnhlkaipaaJ1
namespace Go.Proofs.Ytlfkjjnhlkaipaa
open Go.RowKit

inductive Bs where
  | mk (l : List Bo)
def Bs.l : Bs → List Bo | .mk x => x
def Bs.dat : Bs → Dat
  | .mk l => .agg [.list 1 (Bo.dats l)]
def Bs.dats : List Bs → List Dat
  | [] => []
  | x :: r => x.dat :: Bs.dats r
def Bs.sz : Bs → Nat
  | .mk l => Bo.szs l
def Bs.szs : List Bs → Nat
  | [] => 0
  | x :: r => 1 + x.sz + Bs.szs r
theorem Bs.dats_len (l : List Bs) : (Bs.dats l).length = l.length := by
  induction l with
  | nil => rfl
  | cons x r ih => rw [Bs.dats, List.length_cons, List.length_cons, ih]
theorem Bs.dats_at : ∀ (l : List Bs) (j : Nat) (h : j < l.length) (h' : j < (Bs.dats l).length), (Bs.dats l)[j] = l[j].dat
  | x :: r, 0, _, _ => rfl
  | x :: r, j + 1, h, h' => Bs.dats_at r j (by simpa using h) (by rw [Bs.dats_len]; simpa using h)
theorem Bs.view {w : World} {x : Bs} {cs : List Value} (h : RdD w x.dat cs) : ∃ v0, cs = [v0] ∧ RdL w 1 v0 (Bo.dats x.l) := by
  obtain ⟨l⟩ := x
  rw [Bs.dat, RdD] at h
  rw [RdAgg] at h
  obtain ⟨c0, d0, rfl, h0, h⟩ := h
  obtain ⟨u0, rfl, k0⟩ := RdL.iff.1 h0
  rw [RdAgg] at h
  subst h
  exact ⟨u0, rfl, k0⟩
theorem Bs.unview {w : World} {x : Bs} {v0 : Value} (h0 : RdL w 1 v0 (Bo.dats x.l)) : RdD w x.dat [v0] := by
  obtain ⟨l⟩ := x
  rw [Bs.dat, RdD]
  rw [RdAgg]
  refine ⟨[_], _, rfl, RdL.iff.2 ⟨_, rfl, h0⟩, ?_⟩
  rw [RdAgg]
theorem Bs.slice {w : World} {v : Value} {l : List Bs} (h : RdL w 1 v (Bs.dats l)) : ∃ a cap, v = .slice a l.length cap ∧ (l.length : Int) ≤ 9223372036854775807 := by
  obtain ⟨a, cap, e, hl⟩ := h.slice
  rw [Bs.dats_len] at e hl
  exact ⟨a, cap, e, hl⟩
theorem Bs.elem {w : World} {a : Option Addr} {n cap : Nat} {l : List Bs} (h : RdL w 1 (.slice a n cap) (Bs.dats l)) (j : Nat) (hj : j < l.length) : ∃ g off v0, a = some ⟨g, off, none⟩ ∧ g < w.heap.size ∧ w.cell? ⟨g, off + j * 1, none⟩ = some (v0) ∧ RdL w 1 v0 (Bo.dats l[j].l) := by
  obtain ⟨_, _, e, _, h⟩ := h
  cases e
  obtain ⟨g, off, cs, rfl, hg, hk, hc, hd⟩ := h j (by rw [Bs.dats_len]; exact hj)
  rw [Bs.dats_at l j hj] at hd
  obtain ⟨v0, rfl, r0⟩ := Bs.view hd
  exact ⟨g, off, v0, rfl, hg, hc 0 _ rfl, r0⟩
theorem Bs.szs_ge (l : List Bs) : l.length ≤ Bs.szs l := by
  induction l with
  | nil => exact Nat.le_refl _
  | cons x r ih => rw [Bs.szs, List.length_cons]; omega
theorem Bs.sz_at : ∀ (l : List Bs) (j : Nat) (h : j < l.length), l[j].sz + l.length ≤ Bs.szs l
  | x :: r, 0, _ => by rw [Bs.szs]; have := Bs.szs_ge r; simp only [List.getElem_cons_zero, List.length_cons]; omega
  | x :: r, j + 1, h => by rw [Bs.szs]; have := Bs.sz_at r j (by simpa using h); simp only [List.getElem_cons_succ, List.length_cons]; omega
/-- What the first k take, their number aside. -/
def Bs.pre (l : List Bs) (k : Nat) : Nat := Bs.szs (l.take k) - k
theorem Bs.pre_zero (l : List Bs) : Bs.pre l 0 = 0 := rfl
theorem Bs.szs_app (l r : List Bs) : Bs.szs (l ++ r) = Bs.szs l + Bs.szs r := by
  induction l with
  | nil => rw [List.nil_append, Bs.szs, Nat.zero_add]
  | cons x l ih => rw [List.cons_append, Bs.szs, Bs.szs, ih]; omega
theorem Bs.pre_succ {l : List Bs} {k : Nat} (h : k < l.length) : Bs.pre l (k + 1) = Bs.pre l k + l[k].sz := by
  unfold Bs.pre
  rw [List.take_succ_eq_append_getElem h, Bs.szs_app, Bs.szs, Bs.szs]
  have := Bs.szs_ge (l.take k)
  rw [List.length_take, Nat.min_eq_left (by omega)] at this
  omega
theorem Bs.pre_all (l : List Bs) : l.length + Bs.pre l l.length = Bs.szs l := by
  unfold Bs.pre
  rw [List.take_length]
  have := Bs.szs_ge l
  omega
theorem Bs.pre_le (l : List Bs) (k : Nat) (h : k ≤ l.length) : l.length + Bs.pre l k ≤ Bs.szs l := by
  have e : Bs.szs l = Bs.szs (l.take k) + Bs.szs (l.drop k) := by rw [← Bs.szs_app, List.take_append_drop]
  have h1 := Bs.szs_ge (l.take k)
  have h2 := Bs.szs_ge (l.drop k)
  rw [List.length_take, Nat.min_eq_left h] at h1
  rw [List.length_drop] at h2
  unfold Bs.pre
  omega

inductive Ma where
  | mk (pc : Int) (slots : List In)
def Ma.pc : Ma → Int | .mk x _ => x
def Ma.slots : Ma → List In | .mk _ x => x
def Ma.dat : Ma → Dat
  | .mk pc slots => .agg [.int pc, .list 1 (In.dats slots)]
def Ma.dats : List Ma → List Dat
  | [] => []
  | x :: r => x.dat :: Ma.dats r
def Ma.sz : Ma → Nat
  | .mk _ slots => In.szs slots
def Ma.szs : List Ma → Nat
  | [] => 0
  | x :: r => 1 + x.sz + Ma.szs r
theorem Ma.dats_len (l : List Ma) : (Ma.dats l).length = l.length := by
  induction l with
  | nil => rfl
  | cons x r ih => rw [Ma.dats, List.length_cons, List.length_cons, ih]
theorem Ma.dats_at : ∀ (l : List Ma) (j : Nat) (h : j < l.length) (h' : j < (Ma.dats l).length), (Ma.dats l)[j] = l[j].dat
  | x :: r, 0, _, _ => rfl
  | x :: r, j + 1, h, h' => Ma.dats_at r j (by simpa using h) (by rw [Ma.dats_len]; simpa using h)
theorem Ma.view {w : World} {x : Ma} {cs : List Value} (h : RdD w x.dat cs) : ∃ v0, cs = [.int .i64 x.pc, v0] ∧ RdL w 1 v0 (In.dats x.slots) := by
  obtain ⟨pc, slots⟩ := x
  rw [Ma.dat, RdD] at h
  rw [RdAgg] at h
  obtain ⟨c0, d0, rfl, h0, h⟩ := h
  rw [RdD] at h0
  subst h0
  rw [RdAgg] at h
  obtain ⟨c1, d1, rfl, h1, h⟩ := h
  obtain ⟨u1, rfl, k1⟩ := RdL.iff.1 h1
  rw [RdAgg] at h
  subst h
  exact ⟨u1, rfl, k1⟩
theorem Ma.unview {w : World} {x : Ma} {v0 : Value} (h0 : RdL w 1 v0 (In.dats x.slots)) : RdD w x.dat [.int .i64 x.pc, v0] := by
  obtain ⟨pc, slots⟩ := x
  rw [Ma.dat, RdD]
  rw [RdAgg]
  refine ⟨[_], _, rfl, by rw [RdD]; rfl, ?_⟩
  rw [RdAgg]
  refine ⟨[_], _, rfl, RdL.iff.2 ⟨_, rfl, h0⟩, ?_⟩
  rw [RdAgg]
theorem Ma.slice {w : World} {v : Value} {l : List Ma} (h : RdL w 2 v (Ma.dats l)) : ∃ a cap, v = .slice a l.length cap ∧ (l.length : Int) ≤ 9223372036854775807 := by
  obtain ⟨a, cap, e, hl⟩ := h.slice
  rw [Ma.dats_len] at e hl
  exact ⟨a, cap, e, hl⟩
theorem Ma.elem {w : World} {a : Option Addr} {n cap : Nat} {l : List Ma} (h : RdL w 2 (.slice a n cap) (Ma.dats l)) (j : Nat) (hj : j < l.length) : ∃ g off v0, a = some ⟨g, off, none⟩ ∧ g < w.heap.size ∧ w.cell? ⟨g, off + j * 2, none⟩ = some (.int .i64 l[j].pc) ∧ w.cell? ⟨g, off + j * 2 + 1, none⟩ = some (v0) ∧ RdL w 1 v0 (In.dats l[j].slots) := by
  obtain ⟨_, _, e, _, h⟩ := h
  cases e
  obtain ⟨g, off, cs, rfl, hg, hk, hc, hd⟩ := h j (by rw [Ma.dats_len]; exact hj)
  rw [Ma.dats_at l j hj] at hd
  obtain ⟨v0, rfl, r0⟩ := Ma.view hd
  exact ⟨g, off, v0, rfl, hg, hc 0 _ rfl, hc 1 _ rfl, r0⟩
theorem Ma.szs_ge (l : List Ma) : l.length ≤ Ma.szs l := by
  induction l with
  | nil => exact Nat.le_refl _
  | cons x r ih => rw [Ma.szs, List.length_cons]; omega
theorem Ma.sz_at : ∀ (l : List Ma) (j : Nat) (h : j < l.length), l[j].sz + l.length ≤ Ma.szs l
  | x :: r, 0, _ => by rw [Ma.szs]; have := Ma.szs_ge r; simp only [List.getElem_cons_zero, List.length_cons]; omega
  | x :: r, j + 1, h => by rw [Ma.szs]; have := Ma.sz_at r j (by simpa using h); simp only [List.getElem_cons_succ, List.length_cons]; omega
/-- What the first k take, their number aside. -/
def Ma.pre (l : List Ma) (k : Nat) : Nat := Ma.szs (l.take k) - k
theorem Ma.pre_zero (l : List Ma) : Ma.pre l 0 = 0 := rfl
theorem Ma.szs_app (l r : List Ma) : Ma.szs (l ++ r) = Ma.szs l + Ma.szs r := by
  induction l with
  | nil => rw [List.nil_append, Ma.szs, Nat.zero_add]
  | cons x l ih => rw [List.cons_append, Ma.szs, Ma.szs, ih]; omega
theorem Ma.pre_succ {l : List Ma} {k : Nat} (h : k < l.length) : Ma.pre l (k + 1) = Ma.pre l k + l[k].sz := by
  unfold Ma.pre
  rw [List.take_succ_eq_append_getElem h, Ma.szs_app, Ma.szs, Ma.szs]
  have := Ma.szs_ge (l.take k)
  rw [List.length_take, Nat.min_eq_left (by omega)] at this
  omega
theorem Ma.pre_all (l : List Ma) : l.length + Ma.pre l l.length = Ma.szs l := by
  unfold Ma.pre
  rw [List.take_length]
  have := Ma.szs_ge l
  omega
theorem Ma.pre_le (l : List Ma) (k : Nat) (h : k ≤ l.length) : l.length + Ma.pre l k ≤ Ma.szs l := by
  have e : Ma.szs l = Ma.szs (l.take k) + Ma.szs (l.drop k) := by rw [← Ma.szs_app, List.take_append_drop]
  have h1 := Ma.szs_ge (l.take k)
  have h2 := Ma.szs_ge (l.drop k)
  rw [List.length_take, Nat.min_eq_left h] at h1
  rw [List.length_drop] at h2
  unfold Ma.pre
  omega

inductive Cd where
  | mk (frame : Int) (params : Int) (ins : List Is) (maps : List Ma)
def Cd.frame : Cd → Int | .mk x _ _ _ => x
def Cd.params : Cd → Int | .mk _ x _ _ => x
def Cd.ins : Cd → List Is | .mk _ _ x _ => x
def Cd.maps : Cd → List Ma | .mk _ _ _ x => x
def Cd.dat : Cd → Dat
  | .mk frame params ins maps => .agg [.int frame, .int params, .list 5 (Is.dats ins), .list 2 (Ma.dats maps)]
def Cd.dats : List Cd → List Dat
  | [] => []
  | x :: r => x.dat :: Cd.dats r
def Cd.sz : Cd → Nat
  | .mk _ _ ins maps => Is.szs ins + Ma.szs maps
def Cd.szs : List Cd → Nat
  | [] => 0
  | x :: r => 1 + x.sz + Cd.szs r
theorem Cd.dats_len (l : List Cd) : (Cd.dats l).length = l.length := by
  induction l with
  | nil => rfl
  | cons x r ih => rw [Cd.dats, List.length_cons, List.length_cons, ih]
theorem Cd.dats_at : ∀ (l : List Cd) (j : Nat) (h : j < l.length) (h' : j < (Cd.dats l).length), (Cd.dats l)[j] = l[j].dat
  | x :: r, 0, _, _ => rfl
  | x :: r, j + 1, h, h' => Cd.dats_at r j (by simpa using h) (by rw [Cd.dats_len]; simpa using h)
theorem Cd.view {w : World} {x : Cd} {cs : List Value} (h : RdD w x.dat cs) : ∃ v0 v1, cs = [.int .i64 x.frame, .int .i64 x.params, v0, v1] ∧ RdL w 5 v0 (Is.dats x.ins) ∧ RdL w 2 v1 (Ma.dats x.maps) := by
  obtain ⟨frame, params, ins, maps⟩ := x
  rw [Cd.dat, RdD] at h
  rw [RdAgg] at h
  obtain ⟨c0, d0, rfl, h0, h⟩ := h
  rw [RdD] at h0
  subst h0
  rw [RdAgg] at h
  obtain ⟨c1, d1, rfl, h1, h⟩ := h
  rw [RdD] at h1
  subst h1
  rw [RdAgg] at h
  obtain ⟨c2, d2, rfl, h2, h⟩ := h
  obtain ⟨u2, rfl, k2⟩ := RdL.iff.1 h2
  rw [RdAgg] at h
  obtain ⟨c3, d3, rfl, h3, h⟩ := h
  obtain ⟨u3, rfl, k3⟩ := RdL.iff.1 h3
  rw [RdAgg] at h
  subst h
  exact ⟨u2, u3, rfl, k2, k3⟩
theorem Cd.unview {w : World} {x : Cd} {v0 v1 : Value} (h0 : RdL w 5 v0 (Is.dats x.ins)) (h1 : RdL w 2 v1 (Ma.dats x.maps)) : RdD w x.dat [.int .i64 x.frame, .int .i64 x.params, v0, v1] := by
  obtain ⟨frame, params, ins, maps⟩ := x
  rw [Cd.dat, RdD]
  rw [RdAgg]
  refine ⟨[_], _, rfl, by rw [RdD]; rfl, ?_⟩
  rw [RdAgg]
  refine ⟨[_], _, rfl, by rw [RdD]; rfl, ?_⟩
  rw [RdAgg]
  refine ⟨[_], _, rfl, RdL.iff.2 ⟨_, rfl, h0⟩, ?_⟩
  rw [RdAgg]
  refine ⟨[_], _, rfl, RdL.iff.2 ⟨_, rfl, h1⟩, ?_⟩
  rw [RdAgg]
theorem Cd.slice {w : World} {v : Value} {l : List Cd} (h : RdL w 4 v (Cd.dats l)) : ∃ a cap, v = .slice a l.length cap ∧ (l.length : Int) ≤ 9223372036854775807 := by
  obtain ⟨a, cap, e, hl⟩ := h.slice
  rw [Cd.dats_len] at e hl
  exact ⟨a, cap, e, hl⟩
theorem Cd.elem {w : World} {a : Option Addr} {n cap : Nat} {l : List Cd} (h : RdL w 4 (.slice a n cap) (Cd.dats l)) (j : Nat) (hj : j < l.length) : ∃ g off v0 v1, a = some ⟨g, off, none⟩ ∧ g < w.heap.size ∧ w.cell? ⟨g, off + j * 4, none⟩ = some (.int .i64 l[j].frame) ∧ w.cell? ⟨g, off + j * 4 + 1, none⟩ = some (.int .i64 l[j].params) ∧ w.cell? ⟨g, off + j * 4 + 2, none⟩ = some (v0) ∧ w.cell? ⟨g, off + j * 4 + 3, none⟩ = some (v1) ∧ RdL w 5 v0 (Is.dats l[j].ins) ∧ RdL w 2 v1 (Ma.dats l[j].maps) := by
  obtain ⟨_, _, e, _, h⟩ := h
  cases e
  obtain ⟨g, off, cs, rfl, hg, hk, hc, hd⟩ := h j (by rw [Cd.dats_len]; exact hj)
  rw [Cd.dats_at l j hj] at hd
  obtain ⟨v0, v1, rfl, r0, r1⟩ := Cd.view hd
  exact ⟨g, off, v0, v1, rfl, hg, hc 0 _ rfl, hc 1 _ rfl, hc 2 _ rfl, hc 3 _ rfl, r0, r1⟩
theorem Cd.szs_ge (l : List Cd) : l.length ≤ Cd.szs l := by
  induction l with
  | nil => exact Nat.le_refl _
  | cons x r ih => rw [Cd.szs, List.length_cons]; omega
theorem Cd.sz_at : ∀ (l : List Cd) (j : Nat) (h : j < l.length), l[j].sz + l.length ≤ Cd.szs l
  | x :: r, 0, _ => by rw [Cd.szs]; have := Cd.szs_ge r; simp only [List.getElem_cons_zero, List.length_cons]; omega
  | x :: r, j + 1, h => by rw [Cd.szs]; have := Cd.sz_at r j (by simpa using h); simp only [List.getElem_cons_succ, List.length_cons]; omega
/-- What the first k take, their number aside. -/
def Cd.pre (l : List Cd) (k : Nat) : Nat := Cd.szs (l.take k) - k
theorem Cd.pre_zero (l : List Cd) : Cd.pre l 0 = 0 := rfl
theorem Cd.szs_app (l r : List Cd) : Cd.szs (l ++ r) = Cd.szs l + Cd.szs r := by
  induction l with
  | nil => rw [List.nil_append, Cd.szs, Nat.zero_add]
  | cons x l ih => rw [List.cons_append, Cd.szs, Cd.szs, ih]; omega
theorem Cd.pre_succ {l : List Cd} {k : Nat} (h : k < l.length) : Cd.pre l (k + 1) = Cd.pre l k + l[k].sz := by
  unfold Cd.pre
  rw [List.take_succ_eq_append_getElem h, Cd.szs_app, Cd.szs, Cd.szs]
  have := Cd.szs_ge (l.take k)
  rw [List.length_take, Nat.min_eq_left (by omega)] at this
  omega
theorem Cd.pre_all (l : List Cd) : l.length + Cd.pre l l.length = Cd.szs l := by
  unfold Cd.pre
  rw [List.take_length]
  have := Cd.szs_ge l
  omega
theorem Cd.pre_le (l : List Cd) (k : Nat) (h : k ≤ l.length) : l.length + Cd.pre l k ≤ Cd.szs l := by
  have e : Cd.szs l = Cd.szs (l.take k) + Cd.szs (l.drop k) := by rw [← Cd.szs_app, List.take_append_drop]
  have h1 := Cd.szs_ge (l.take k)
  have h2 := Cd.szs_ge (l.drop k)
  rw [List.length_take, Nat.min_eq_left h] at h1
  rw [List.length_drop] at h2
  unfold Cd.pre
  omega

inductive Im where
  | mk (structs : List Bs) (codes : List Cd) (main : Int)
def Im.structs : Im → List Bs | .mk x _ _ => x
def Im.codes : Im → List Cd | .mk _ x _ => x
def Im.main : Im → Int | .mk _ _ x => x
def Im.dat : Im → Dat
  | .mk structs codes main => .agg [.list 1 (Bs.dats structs), .list 4 (Cd.dats codes), .int main]
def Im.dats : List Im → List Dat
  | [] => []
  | x :: r => x.dat :: Im.dats r
def Im.sz : Im → Nat
  | .mk structs codes _ => Bs.szs structs + Cd.szs codes
def Im.szs : List Im → Nat
  | [] => 0
  | x :: r => 1 + x.sz + Im.szs r
theorem Im.dats_len (l : List Im) : (Im.dats l).length = l.length := by
  induction l with
  | nil => rfl
  | cons x r ih => rw [Im.dats, List.length_cons, List.length_cons, ih]
theorem Im.dats_at : ∀ (l : List Im) (j : Nat) (h : j < l.length) (h' : j < (Im.dats l).length), (Im.dats l)[j] = l[j].dat
  | x :: r, 0, _, _ => rfl
  | x :: r, j + 1, h, h' => Im.dats_at r j (by simpa using h) (by rw [Im.dats_len]; simpa using h)
theorem Im.view {w : World} {x : Im} {cs : List Value} (h : RdD w x.dat cs) : ∃ v0 v1, cs = [v0, v1, .int .i64 x.main] ∧ RdL w 1 v0 (Bs.dats x.structs) ∧ RdL w 4 v1 (Cd.dats x.codes) := by
  obtain ⟨structs, codes, main⟩ := x
  rw [Im.dat, RdD] at h
  rw [RdAgg] at h
  obtain ⟨c0, d0, rfl, h0, h⟩ := h
  obtain ⟨u0, rfl, k0⟩ := RdL.iff.1 h0
  rw [RdAgg] at h
  obtain ⟨c1, d1, rfl, h1, h⟩ := h
  obtain ⟨u1, rfl, k1⟩ := RdL.iff.1 h1
  rw [RdAgg] at h
  obtain ⟨c2, d2, rfl, h2, h⟩ := h
  rw [RdD] at h2
  subst h2
  rw [RdAgg] at h
  subst h
  exact ⟨u0, u1, rfl, k0, k1⟩
theorem Im.unview {w : World} {x : Im} {v0 v1 : Value} (h0 : RdL w 1 v0 (Bs.dats x.structs)) (h1 : RdL w 4 v1 (Cd.dats x.codes)) : RdD w x.dat [v0, v1, .int .i64 x.main] := by
  obtain ⟨structs, codes, main⟩ := x
  rw [Im.dat, RdD]
  rw [RdAgg]
  refine ⟨[_], _, rfl, RdL.iff.2 ⟨_, rfl, h0⟩, ?_⟩
  rw [RdAgg]
  refine ⟨[_], _, rfl, RdL.iff.2 ⟨_, rfl, h1⟩, ?_⟩
  rw [RdAgg]
  refine ⟨[_], _, rfl, by rw [RdD]; rfl, ?_⟩
  rw [RdAgg]
theorem Im.slice {w : World} {v : Value} {l : List Im} (h : RdL w 3 v (Im.dats l)) : ∃ a cap, v = .slice a l.length cap ∧ (l.length : Int) ≤ 9223372036854775807 := by
  obtain ⟨a, cap, e, hl⟩ := h.slice
  rw [Im.dats_len] at e hl
  exact ⟨a, cap, e, hl⟩
theorem Im.elem {w : World} {a : Option Addr} {n cap : Nat} {l : List Im} (h : RdL w 3 (.slice a n cap) (Im.dats l)) (j : Nat) (hj : j < l.length) : ∃ g off v0 v1, a = some ⟨g, off, none⟩ ∧ g < w.heap.size ∧ w.cell? ⟨g, off + j * 3, none⟩ = some (v0) ∧ w.cell? ⟨g, off + j * 3 + 1, none⟩ = some (v1) ∧ w.cell? ⟨g, off + j * 3 + 2, none⟩ = some (.int .i64 l[j].main) ∧ RdL w 1 v0 (Bs.dats l[j].structs) ∧ RdL w 4 v1 (Cd.dats l[j].codes) := by
  obtain ⟨_, _, e, _, h⟩ := h
  cases e
  obtain ⟨g, off, cs, rfl, hg, hk, hc, hd⟩ := h j (by rw [Im.dats_len]; exact hj)
  rw [Im.dats_at l j hj] at hd
  obtain ⟨v0, v1, rfl, r0, r1⟩ := Im.view hd
  exact ⟨g, off, v0, v1, rfl, hg, hc 0 _ rfl, hc 1 _ rfl, hc 2 _ rfl, r0, r1⟩
theorem Im.szs_ge (l : List Im) : l.length ≤ Im.szs l := by
  induction l with
  | nil => exact Nat.le_refl _
  | cons x r ih => rw [Im.szs, List.length_cons]; omega
theorem Im.sz_at : ∀ (l : List Im) (j : Nat) (h : j < l.length), l[j].sz + l.length ≤ Im.szs l
  | x :: r, 0, _ => by rw [Im.szs]; have := Im.szs_ge r; simp only [List.getElem_cons_zero, List.length_cons]; omega
  | x :: r, j + 1, h => by rw [Im.szs]; have := Im.sz_at r j (by simpa using h); simp only [List.getElem_cons_succ, List.length_cons]; omega
/-- What the first k take, their number aside. -/
def Im.pre (l : List Im) (k : Nat) : Nat := Im.szs (l.take k) - k
theorem Im.pre_zero (l : List Im) : Im.pre l 0 = 0 := rfl
theorem Im.szs_app (l r : List Im) : Im.szs (l ++ r) = Im.szs l + Im.szs r := by
  induction l with
  | nil => rw [List.nil_append, Im.szs, Nat.zero_add]
  | cons x l ih => rw [List.cons_append, Im.szs, Im.szs, ih]; omega
theorem Im.pre_succ {l : List Im} {k : Nat} (h : k < l.length) : Im.pre l (k + 1) = Im.pre l k + l[k].sz := by
  unfold Im.pre
  rw [List.take_succ_eq_append_getElem h, Im.szs_app, Im.szs, Im.szs]
  have := Im.szs_ge (l.take k)
  rw [List.length_take, Nat.min_eq_left (by omega)] at this
  omega
theorem Im.pre_all (l : List Im) : l.length + Im.pre l l.length = Im.szs l := by
  unfold Im.pre
  rw [List.take_length]
  have := Im.szs_ge l
  omega
theorem Im.pre_le (l : List Im) (k : Nat) (h : k ≤ l.length) : l.length + Im.pre l k ≤ Im.szs l := by
  have e : Im.szs l = Im.szs (l.take k) + Im.szs (l.drop k) := by rw [← Im.szs_app, List.take_append_drop]
  have h1 := Im.szs_ge (l.take k)
  have h2 := Im.szs_ge (l.drop k)
  rw [List.length_take, Nat.min_eq_left h] at h1
  rw [List.length_drop] at h2
  unfold Im.pre
  omega

end Go.Proofs.Ytlfkjjnhlkaipaa
