/- Ints and types as elements of lists. -/
import Derived.Test.YthammngddmkhhaaT4
namespace Go.Proofs.Ythammngddmkhhaa
open Go.RowKit
/-- An int as an element. -/
abbrev In := Int
def In.dats (l : List In) : List Dat := l.map Dat.int
def In.szs (l : List In) : Nat := l.length
theorem In.dats_len (l : List In) : (In.dats l).length = l.length := List.length_map ..
theorem In.slice {w : World} {v : Value} {l : List In} (h : RdL w 1 v (In.dats l)) : ∃ a cap, v = .slice a l.length cap ∧ (l.length : Int) ≤ 9223372036854775807 := by
  obtain ⟨a, cap, e, hl⟩ := h.slice
  rw [In.dats_len] at e hl
  exact ⟨a, cap, e, hl⟩
theorem In.elem {w : World} {a : Option Addr} {n cap : Nat} {l : List In} (h : RdL w 1 (.slice a n cap) (In.dats l)) (j : Nat) (hj : j < l.length) : ∃ g off, a = some ⟨g, off, none⟩ ∧ g < w.heap.size ∧ w.cell? ⟨g, off + j, none⟩ = some (.int .i64 l[j]) := by
  obtain ⟨_, _, e, _, h⟩ := h
  cases e
  obtain ⟨g, off, cs, rfl, hg, hk, hc, hd⟩ := h j (by rw [In.dats_len]; exact hj)
  have e : (In.dats l)[j]'(by rw [In.dats_len]; exact hj) = .int l[j] := List.getElem_map ..
  rw [e, RdD] at hd
  subst hd
  have := hc 0 _ rfl
  rw [Nat.mul_one] at this
  exact ⟨g, off, rfl, hg, this⟩
/-- A Ty as an element. -/
abbrev Tp := Int × Int
def Tp.dat (p : Tp) : Dat := .agg [.int p.1, .int p.2]
def Tp.dats (l : List Tp) : List Dat := l.map Tp.dat
def Tp.szs (l : List Tp) : Nat := l.length
theorem Tp.dats_len (l : List Tp) : (Tp.dats l).length = l.length := List.length_map ..
theorem Tp.slice {w : World} {v : Value} {l : List Tp} (h : RdL w 2 v (Tp.dats l)) : ∃ a cap, v = .slice a l.length cap ∧ (l.length : Int) ≤ 9223372036854775807 := by
  obtain ⟨a, cap, e, hl⟩ := h.slice
  rw [Tp.dats_len] at e hl
  exact ⟨a, cap, e, hl⟩
theorem Tp.view {w : World} {p : Tp} {cs : List Value} (h : RdD w (Tp.dat p) cs) : cs = [.int .i64 p.1, .int .i64 p.2] := by
  unfold Tp.dat at h
  rw [RdD, RdAgg] at h
  obtain ⟨c1, c2, rfl, h1, h⟩ := h
  rw [RdAgg] at h
  obtain ⟨c3, c4, rfl, h2, h⟩ := h
  rw [RdAgg] at h
  rw [RdD] at h1 h2
  subst h1 h2 h
  rfl
theorem Tp.elem {w : World} {a : Option Addr} {n cap : Nat} {l : List Tp} (h : RdL w 2 (.slice a n cap) (Tp.dats l)) (j : Nat) (hj : j < l.length) : ∃ g off, a = some ⟨g, off, none⟩ ∧ g < w.heap.size ∧ w.cell? ⟨g, off + j * 2, none⟩ = some (.int .i64 l[j].1) ∧ w.cell? ⟨g, off + j * 2 + 1, none⟩ = some (.int .i64 l[j].2) := by
  obtain ⟨_, _, e, _, h⟩ := h
  cases e
  obtain ⟨g, off, cs, rfl, hg, hk, hc, hd⟩ := h j (by rw [Tp.dats_len]; exact hj)
  have e : (Tp.dats l)[j]'(by rw [Tp.dats_len]; exact hj) = Tp.dat l[j] := List.getElem_map ..
  rw [e] at hd
  obtain rfl := Tp.view hd
  exact ⟨g, off, rfl, hg, hc 0 _ rfl, hc 1 _ rfl⟩
end Go.Proofs.Ythammngddmkhhaa
