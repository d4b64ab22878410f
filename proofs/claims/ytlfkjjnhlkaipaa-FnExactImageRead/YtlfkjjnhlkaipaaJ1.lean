/- Bools, ints and instructions as elements of lists. -/
import Derived.Test.YtlfkjjnhlkaipaaT4
namespace Go.Proofs.Ytlfkjjnhlkaipaa
open Go.RowKit
/-- An int as an element. -/
abbrev In := Int
def In.dats (l : List In) : List Dat := l.map Dat.int
def In.szs (l : List In) : Nat := l.length
theorem In.dats_len (l : List In) : (In.dats l).length = l.length := List.length_map ..
theorem In.slice {w : World} {v : Value} {l : List In} (h : RdL w 1 v (In.dats l)) : ∃ a cap, v = .slice a l.length cap ∧ (l.length : Int) ≤ 9223372036854775807 := by
  obtain ⟨a, cap, e, hl⟩ := h.slice
  rw [In.dats_len] at e hl
  exact ⟨a, cap, e, hl⟩
theorem In.elem {w : World} {a : Option Addr} {n cap : Nat} {l : List In} (h : RdL w 1 (.slice a n cap) (In.dats l)) (j : Nat) (hj : j < l.length) : ∃ g off, a = some ⟨g, off, none⟩ ∧ g < w.heap.size ∧ w.cell? ⟨g, off + j, none⟩ = some (.int .i64 l[j]) := by
  obtain ⟨_, _, e, _, h⟩ := h
  cases e
  obtain ⟨g, off, cs, rfl, hg, hk, hc, hd⟩ := h j (by rw [In.dats_len]; exact hj)
  have e : (In.dats l)[j]'(by rw [In.dats_len]; exact hj) = .int l[j] := List.getElem_map ..
  rw [e, RdD] at hd
  subst hd
  have := hc 0 _ rfl
  rw [Nat.mul_one] at this
  exact ⟨g, off, rfl, hg, this⟩
/-- A bool as an element. -/
abbrev Bo := Bool
def Bo.dats (l : List Bo) : List Dat := l.map Dat.bool
def Bo.szs (l : List Bo) : Nat := l.length
theorem Bo.dats_len (l : List Bo) : (Bo.dats l).length = l.length := List.length_map ..
theorem Bo.slice {w : World} {v : Value} {l : List Bo} (h : RdL w 1 v (Bo.dats l)) : ∃ a cap, v = .slice a l.length cap ∧ (l.length : Int) ≤ 9223372036854775807 := by
  obtain ⟨a, cap, e, hl⟩ := h.slice
  rw [Bo.dats_len] at e hl
  exact ⟨a, cap, e, hl⟩
theorem Bo.elem {w : World} {a : Option Addr} {n cap : Nat} {l : List Bo} (h : RdL w 1 (.slice a n cap) (Bo.dats l)) (j : Nat) (hj : j < l.length) : ∃ g off, a = some ⟨g, off, none⟩ ∧ g < w.heap.size ∧ w.cell? ⟨g, off + j, none⟩ = some (.bool l[j]) := by
  obtain ⟨_, _, e, _, h⟩ := h
  cases e
  obtain ⟨g, off, cs, rfl, hg, hk, hc, hd⟩ := h j (by rw [Bo.dats_len]; exact hj)
  have e : (Bo.dats l)[j]'(by rw [Bo.dats_len]; exact hj) = .bool l[j] := List.getElem_map ..
  rw [e, RdD] at hd
  subst hd
  have := hc 0 _ rfl
  rw [Nat.mul_one] at this
  exact ⟨g, off, rfl, hg, this⟩
/-- An instruction as an element. -/
structure Is where
  op : Int
  a : Int
  b : Int
  c : Int
  n : Int
def Is.dat (p : Is) : Dat := .agg [.int p.op, .int p.a, .int p.b, .int p.c, .int p.n]
def Is.dats (l : List Is) : List Dat := l.map Is.dat
def Is.szs (l : List Is) : Nat := l.length
theorem Is.dats_len (l : List Is) : (Is.dats l).length = l.length := List.length_map ..
theorem Is.slice {w : World} {v : Value} {l : List Is} (h : RdL w 5 v (Is.dats l)) : ∃ a cap, v = .slice a l.length cap ∧ (l.length : Int) ≤ 9223372036854775807 := by
  obtain ⟨a, cap, e, hl⟩ := h.slice
  rw [Is.dats_len] at e hl
  exact ⟨a, cap, e, hl⟩
theorem Is.view {w : World} {p : Is} {cs : List Value} (h : RdD w (Is.dat p) cs) : cs = [.int .i64 p.op, .int .i64 p.a, .int .i64 p.b, .int .i64 p.c, .int .i64 p.n] := by
  unfold Is.dat at h
  rw [RdD, RdAgg] at h
  obtain ⟨c0, d0, rfl, h0, h⟩ := h
  rw [RdAgg] at h
  obtain ⟨c1, d1, rfl, h1, h⟩ := h
  rw [RdAgg] at h
  obtain ⟨c2, d2, rfl, h2, h⟩ := h
  rw [RdAgg] at h
  obtain ⟨c3, d3, rfl, h3, h⟩ := h
  rw [RdAgg] at h
  obtain ⟨c4, d4, rfl, h4, h⟩ := h
  rw [RdAgg] at h
  rw [RdD] at h0 h1 h2 h3 h4
  subst h0 h1 h2 h3 h4 h
  rfl
theorem Is.unview {w : World} {p : Is} : RdD w (Is.dat p) [.int .i64 p.op, .int .i64 p.a, .int .i64 p.b, .int .i64 p.c, .int .i64 p.n] := by
  unfold Is.dat
  rw [RdD, RdAgg]
  refine ⟨[_], _, rfl, by rw [RdD], ?_⟩
  rw [RdAgg]
  refine ⟨[_], _, rfl, by rw [RdD], ?_⟩
  rw [RdAgg]
  refine ⟨[_], _, rfl, by rw [RdD], ?_⟩
  rw [RdAgg]
  refine ⟨[_], _, rfl, by rw [RdD], ?_⟩
  rw [RdAgg]
  refine ⟨[_], _, rfl, by rw [RdD], ?_⟩
  rw [RdAgg]
theorem Is.elem {w : World} {a : Option Addr} {n cap : Nat} {l : List Is} (h : RdL w 5 (.slice a n cap) (Is.dats l)) (j : Nat) (hj : j < l.length) : ∃ g off, a = some ⟨g, off, none⟩ ∧ g < w.heap.size ∧ w.cell? ⟨g, off + j * 5, none⟩ = some (.int .i64 l[j].op) ∧ w.cell? ⟨g, off + j * 5 + 1, none⟩ = some (.int .i64 l[j].a) ∧ w.cell? ⟨g, off + j * 5 + 2, none⟩ = some (.int .i64 l[j].b) ∧ w.cell? ⟨g, off + j * 5 + 3, none⟩ = some (.int .i64 l[j].c) ∧ w.cell? ⟨g, off + j * 5 + 4, none⟩ = some (.int .i64 l[j].n) := by
  obtain ⟨_, _, e, _, h⟩ := h
  cases e
  obtain ⟨g, off, cs, rfl, hg, hk, hc, hd⟩ := h j (by rw [Is.dats_len]; exact hj)
  have e : (Is.dats l)[j]'(by rw [Is.dats_len]; exact hj) = Is.dat l[j] := List.getElem_map ..
  rw [e] at hd
  obtain rfl := Is.view hd
  exact ⟨g, off, rfl, hg, hc 0 _ rfl, hc 1 _ rfl, hc 2 _ rfl, hc 3 _ rfl, hc 4 _ rfl⟩
end Go.Proofs.Ytlfkjjnhlkaipaa
