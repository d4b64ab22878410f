/- Slices of bytes by the laws' own functions: read, copied, held against each other, marked. What was written where. -/
import Derived.Test.YtlfkjjnhlkaipaaD2
namespace Go.Proofs.Ytlfkjjnhlkaipaa
open Go.RowKit

theorem later2 (w : World) (o o' : Obj) : Later w ((w.alloc o).alloc o') := ((Below.refl _ _).alloc (Nat.le_refl _) _).alloc (by simp) _
theorem later1 (w : World) (o : Obj) : Later w (w.alloc o) := (Below.refl _ _).alloc (Nat.le_refl _) _
theorem later_drewN {w w' : World} (h : Later w w') (n : Nat) : Later w (w'.drewN n) := below_drewN h n
theorem grown_later {w w' : World} (h : w.grownBy w' none) : Later w w' := ⟨h.os, h.tape, h.output, h.size, fun k hk => h.block k hk (by simp)⟩
theorem ret_bool {a b : Bool} (h : a = b) : Ending.returned (.bool a) = .returned (.bool b) := by rw [h]
theorem eq_of_getD {xs ys : List Int} (hl : xs.length = ys.length) (h : ∀ j, j < xs.length → xs.getD j 0 = ys.getD j 0) : xs = ys := by
  apply List.ext_getElem hl
  intro j h1 h2
  have := h j h1
  rwa [List.getD_eq_getElem?_getD, List.getD_eq_getElem?_getD, List.getElem?_eq_getElem h1, List.getElem?_eq_getElem h2] at this

/-- A number that is a byte. -/
def isB (z : Int) : Prop := 0 ≤ z ∧ z ≤ 255
/-- A slice of bytes that can be read. -/
def RdB (w : World) (v : Value) (zs : List Int) : Prop :=
  ∃ a cap, v = .slice a zs.length cap ∧ (zs.length : Int) ≤ 9223372036854775807 ∧ (∀ j, isB (zs.getD j 0)) ∧
    ∀ j, j < zs.length → ∃ g off, a = some ⟨g, off, none⟩ ∧ g < w.heap.size ∧ w.cell? ⟨g, off + j, none⟩ = some (.int .u8 (zs.getD j 0))
theorem RdB.later {w w' : World} {v : Value} {zs : List Int} (h : RdB w v zs) (hb : Later w w') : RdB w' v zs := by
  obtain ⟨a, cap, rfl, hl, hz, hc⟩ := h
  refine ⟨a, cap, rfl, hl, hz, fun j hj => ?_⟩
  obtain ⟨g, off, rfl, hg, hv⟩ := hc j hj
  exact ⟨g, off, rfl, Nat.lt_of_lt_of_le hg hb.size, by rw [Below.cell hb (p := ⟨g, off + j, none⟩) hg]; exact hv⟩
theorem RdB.nil (w : World) : RdB w (.slice none 0 0) [] := ⟨none, 0, rfl, by decide, fun _ => ⟨by simp, by simp⟩, fun j hj => absurd hj (Nat.not_lt_zero _)⟩

set_option maxHeartbeats 400000 in
theorem eqb_any (v1 v2 : Value) (xs ys : List Int) (w : World) (h1 : RdB w v1 xs) (h2 : RdB w v2 ys) :
    Calls Try.prog 12 #[v1, v2] w fun e w' => e = .returned (.bool (decide (xs = ys))) ∧ ∃ n, w' = w.drewN n := by
  obtain ⟨a, cap, rfl, hl, _, hc⟩ := h1
  obtain ⟨a', cap', rfl, hl', _, hc'⟩ := h2
  by_cases hlen : xs.length = ys.length
  · have hle : ((xs.length : Int) != (ys.length : Int)) = false := by simp [hlen]
    go_enter Try.func12, Try.ntmps12
    go_wp2
    go_loopw [5] (fun i wr => ∃ (k n : Nat), i = .int .i64 (k : Int) ∧ k ≤ xs.length ∧ wr = w.drewN n ∧ Hid (∀ j, j < k → xs.getD j 0 = ys.getD j 0)) (fun i _ => xs.length - (intOf i).toNat)
    case atStart => exact ⟨0, 0, rfl, Nat.zero_le _, rfl, fun j hj => absurd hj (Nat.not_lt_zero _)⟩
    case round =>
      obtain ⟨k, n, rfl, hk, rfl, hall⟩ := hrel
      by_cases hlt : k < xs.length
      · obtain ⟨g, off, rfl, _, hv⟩ := hc k hlt
        obtain ⟨g', off', rfl, _, hv'⟩ := hc' k (by omega)
        have i1 : (k : Int) < (xs.length : Int) := by omega
        have i2 : (k : Int) < (ys.length : Int) := by omega
        generalize hz : xs.getD k 0 = z at hv
        generalize hz' : ys.getD k 0 = z' at hv'
        have HZ : Hid (xs.getD k 0 = z) := hz
        have HZ' : Hid (ys.getD k 0 = z') := hz'
        clear hz hz' hc hc'
        by_cases he : z = z'
        · have hne : (z != z') = false := by simp [he]
          go_wp2
          go_quiet (fail)
          go_wp2
          go_roundw
          case rel => exact ⟨k + 1, _, by go_num, by omega, rfl, fun j hj => by
              rcases Nat.lt_or_ge j k with a | a
              · exact hall.out j a
              · have : j = k := by omega
                rw [this, HZ.out, HZ'.out, he]⟩
          case measure => simp [intOf]; omega
        · have hne : (z != z') = true := by simp [he]
          go_wp2
          go_quiet (fail)
          go_wp2
          go_ret
          exact ⟨ret_bool (decide_eq_false (fun h => he (by rw [← HZ.out, ← HZ'.out, h]))).symm, _, World.drewN_drewN _ _ _⟩
      · have hlt' : decide ((k : Int) < (xs.length : Int)) = false := by simp; omega
        go_wp2
        go_ret
        exact ⟨ret_bool (decide_eq_true (eq_of_getD hlen (fun j hj => hall.out j (by omega)))).symm, _, rfl⟩
  · have hle : ((xs.length : Int) != (ys.length : Int)) = true := by simp; omega
    go_enter Try.func12, Try.ntmps12
    go_wp2
    go_ret
    exact ⟨ret_bool (decide_eq_false (fun h => hlen (by rw [h]))).symm, 0, rfl⟩
theorem eqb_b {v1 v2 : Value} {xs ys : List Int} {b : Bool} (hb : Hid (decide (xs = ys) = b)) {w : World} (h1 : RdB w v1 xs) (h2 : RdB w v2 ys) :
    Calls Try.prog 12 #[v1, v2] w fun e w' => e = .returned (.bool b) ∧ Later w w' := by
  refine (eqb_any v1 v2 xs ys w h1 h2).mono ?_
  rw [hb.out]
  rintro e w' ⟨rfl, n, rfl⟩
  exact ⟨rfl, later_drewN (Later.refl _) _⟩

theorem Try.info5 : (Try.prog.info? 5).map (fun i => (i.zero, i.size, i.bytes)) = some (some (.int .u8 0), 1, 1) := by kernel_rfl

theorem copyb_step {zs : List Int} {j : Nat} (h : j < zs.length) : ((zs.take j).map (Value.int .u8) ++ List.replicate (zs.length - j) (Value.int .u8 0)).set j (.int .u8 (zs.getD j 0)) = (zs.take (j + 1)).map (Value.int .u8) ++ List.replicate (zs.length - (j + 1)) (.int .u8 0) := by
  have hl : ((zs.take j).map (Value.int .u8)).length = j := by simp; omega
  rw [List.set_append_right _ _ (by rw [hl]; omega), hl, Nat.sub_self, List.take_succ_eq_append_getElem h, List.map_append, List.append_assoc]
  congr 1
  rw [show zs.length - j = (zs.length - (j + 1)) + 1 by omega, List.replicate_succ]
  rw [List.getD_eq_getElem?_getD, List.getElem?_eq_getElem h]
  rfl

set_option maxHeartbeats 400000 in
theorem tob_any (v : Value) (zs : List Int) (w : World) (hs : zs.length ≤ 1048576) (h : RdB w v zs) :
    Calls Try.prog 9 #[v] w fun e w' => e = .returned (.slice (some ⟨w.heap.size, 0, none⟩) zs.length zs.length) ∧ w'.ownsRow w.heap.size 5 1 (.slice (some ⟨w.heap.size, 0, none⟩) zs.length zs.length) zs.length (zs.map (Value.int .u8)) ∧ Later w w' := by
  obtain ⟨a, cap, rfl, hl, _, hc⟩ := h
  obtain ⟨i0, hi, hz0, hz1, hz2⟩ := info_parts Try.info5
  go_enter Try.func9, Try.ntmps9
  go_wp2_with (at_make; refine wpList_make_full _ rfl _ _ 22 rfl w.heap.size 5 i0 (.int .u8 0) 1 Try.underlying22 hi hz0 hz1 .i64 .i64 _ _ zs.length rfl rfl rfl rfl (by rw [hz2]; omega) (by unfold maxLen; omega) (Nat.le_refl _) ?_; intro w1 hown hgr)
  have hown0 : w1.ownsRow w.heap.size 5 1 (.slice (some ⟨w.heap.size, 0, none⟩) zs.length zs.length) zs.length (List.replicate zs.length (Value.int .u8 0)) := by
    have e : (madeCells (Value.int .u8 0).cells (zs.length * 1)).toList = List.replicate zs.length (Value.int .u8 0) := by rw [Nat.mul_one]; exact toList_madeCells_one _ _
    rw [← e]; exact hown
  have hlat1 : Later w w1 := (Below.refl _ _).grown hgr (Nat.le_refl _) (fun k h => by cases h)
  clear hown hgr hi hz0 hz1 hz2
  go_loopw [4] (fun i wr => ∃ j : Nat, i = .int .i64 (j : Int) ∧ j ≤ zs.length ∧ wr.ownsRow w.heap.size 5 1 (.slice (some ⟨w.heap.size, 0, none⟩) zs.length zs.length) zs.length ((zs.take j).map (Value.int .u8) ++ List.replicate (zs.length - j) (Value.int .u8 0)) ∧ Later w wr) (fun i _ => zs.length - (intOf i).toNat)
  case atStart => exact ⟨0, rfl, Nat.zero_le _, by simpa using hown0, hlat1⟩
  case round =>
    obtain ⟨j, rfl, hj, hown, hlat⟩ := hrel
    by_cases hlt : j < zs.length
    · obtain ⟨g, off, rfl, hg, hv⟩ := hc j hlt
      have hi : (j : Int) < (zs.length : Int) := by omega
      have hvr : wr.cell? ⟨g, off + j, none⟩ = some (.int .u8 (zs.getD j 0)) := by rw [Below.cell hlat (p := ⟨g, off + j, none⟩) hg]; exact hv
      have hst := hown.stored j (.int .u8 (zs.getD j 0))
      rw [copyb_step hlt] at hst
      obtain ⟨hs1, hs2⟩ := hst
      have hcell : wr.cell? ⟨w.heap.size, j, none⟩ = some (.int .u8 0) := by
        rw [hown.cellAt j (by omega), List.getElem?_append_right (by rw [List.length_map, List.length_take]; omega), List.length_map, List.length_take, Nat.min_eq_left (by omega), Nat.sub_self, List.getElem?_replicate, if_pos (by omega)]
      have hfr := hown.frozenAt j
      generalize zs.getD j 0 = z at *
      have hlat2 : Later w (wr.setCell ⟨w.heap.size, j, none⟩ (.int .u8 z)) := Below.setCell hlat (Nat.le_refl _) _
      clear hown hown0 hv hc hs2
      go_wp2
      go_roundw
      case rel => exact ⟨j + 1, by go_num, by omega, hs1, hlat2⟩
      case measure => simp [intOf]; omega
    · have hlt' : decide ((j : Int) < (zs.length : Int)) = false := by simp; omega
      go_wp2
      go_ret
      exact ⟨rfl, by rw [List.take_of_length_le (by omega), Nat.sub_eq_zero_of_le (by omega), List.replicate_zero, List.append_nil] at hown; exact hown, hlat⟩

theorem set_other {w : World} {a b : Addr} {v : Value} (h : a ≠ b) : (w.setCell a v).cell? b = w.cell? b := by apply World.cell?_setCell_other; exact h

/-- What was written where: w' is w but for these cells. -/
structure Wrote (w w' : World) (P : List (Addr × Value)) : Prop where
  os : w'.os = w.os
  tape : w'.tape = w.tape
  output : w'.output = w.output
  size : w'.heap.size = w.heap.size
  block : ∀ k, (∀ p ∈ P, p.1.block ≠ k) → w'.heap[k]? = w.heap[k]?
  frozen : ∀ a, w'.frozen? a = w.frozen? a
  cell : ∀ p ∈ P, w'.cell? p.1 = some p.2
  other : ∀ a, (∀ p ∈ P, p.1 ≠ a) → w'.cell? a = w.cell? a
theorem Wrote.nil (w : World) : Wrote w w [] := ⟨rfl, rfl, rfl, rfl, fun _ _ => rfl, fun _ => rfl, (fun _ h => by cases h), fun _ _ => rfl⟩
theorem Wrote.set {w w' : World} {P : List (Addr × Value)} (h : Wrote w w' P) {a : Addr} (hn : ∀ p ∈ P, p.1 ≠ a) {u : Value} (hc : w.cell? a = some u) (v : Value) : Wrote w (w'.setCell a v) (P ++ [(a, v)]) := by
  have hc' : w'.cell? a = some u := by rw [h.other a hn]; exact hc
  refine ⟨h.os, h.tape, h.output, by rw [World.size_setCell]; exact h.size, fun k hk => ?_, fun b => by rw [World.frozen?_setCell]; exact h.frozen b, fun p hp => ?_, fun b hb => ?_⟩
  · have h1 : a.block ≠ k := hk (a, v) (List.mem_append_right _ (List.mem_singleton.2 rfl))
    rw [Below.heap_setCell _ _ _ _ (Ne.symm h1)]
    exact h.block k (fun p hp => hk p (List.mem_append_left _ hp))
  · rcases List.mem_append.1 hp with hp | hp
    · rw [set_other (Ne.symm (hn p hp))]
      exact h.cell p hp
    · obtain rfl := List.mem_singleton.1 hp
      exact set_same hc'
  · rw [set_other (hb (a, v) (List.mem_append_right _ (List.mem_singleton.2 rfl)))]
    exact h.other b (fun p hp => hb p (List.mem_append_left _ hp))
theorem Wrote.trans {w w' w'' : World} {P Q : List (Addr × Value)} (h : Wrote w w' P) (k : Wrote w' w'' Q) (hd : ∀ p ∈ P, ∀ q ∈ Q, q.1 ≠ p.1) : Wrote w w'' (P ++ Q) := by
  refine ⟨k.os.trans h.os, k.tape.trans h.tape, k.output.trans h.output, k.size.trans h.size, fun b hb => ?_, fun a => (k.frozen a).trans (h.frozen a), fun p hp => ?_, fun a ha => ?_⟩
  · rw [k.block b (fun p hp => hb p (List.mem_append_right _ hp))]
    exact h.block b (fun p hp => hb p (List.mem_append_left _ hp))
  · rcases List.mem_append.1 hp with hp | hp
    · rw [k.other p.1 (fun q hq => hd p hp q hq)]
      exact h.cell p hp
    · exact k.cell p hp
  · rw [k.other a (fun p hp => ha p (List.mem_append_right _ hp))]
    exact h.other a (fun p hp => ha p (List.mem_append_left _ hp))
theorem Wrote.below {w w' : World} {P : List (Addr × Value)} (h : Wrote w w' P) {B : Nat} (hB : ∀ p ∈ P, B ≤ p.1.block) : Below B w w' :=
  ⟨h.os, h.tape, h.output, Nat.le_of_eq h.size.symm, fun k hk => h.block k (fun p hp => by have := hB p hp; omega)⟩

/-- The marks that a slice of bytes gets. -/
def bmarks (g off : Nat) (k : Int) (n : Nat) : List (Addr × Value) := (List.range n).map fun j : Nat => ((⟨g, off + j, none⟩ : Addr), Value.int .u8 (IntKind.u8.wrap (k + j)))
theorem bmarks_succ (g off : Nat) (k : Int) (n : Nat) : bmarks g off k (n + 1) = bmarks g off k n ++ [((⟨g, off + n, none⟩ : Addr), Value.int .u8 (IntKind.u8.wrap (k + n)))] := by simp [bmarks, List.range_succ]
theorem bmarks_mem {g off : Nat} {k : Int} {n : Nat} {p : Addr × Value} (h : p ∈ bmarks g off k n) : ∃ j, j < n ∧ p.1 = ⟨g, off + j, none⟩ ∧ p.2 = .int .u8 (IntKind.u8.wrap (k + j)) := by
  unfold bmarks at h
  obtain ⟨j, hj, rfl⟩ := List.mem_map.1 h
  exact ⟨j, List.mem_range.1 hj, rfl, rfl⟩

set_option maxHeartbeats 400000 in
theorem markb_any (g off cap n : Nat) (k0 : Int) (w : World) (hk0 : 0 ≤ k0) (hk1 : k0 + n ≤ 4611686018427387904) (hc : ∀ j, j < n → ∃ u, w.cell? ⟨g, off + j, none⟩ = some u) (hf : ∀ j, j < n → w.frozen? ⟨g, off + j, none⟩ = false) :
    Calls Try.prog 13 #[.slice (some ⟨g, off, none⟩) n cap, .int .i64 k0] w fun e w' => e = .returned (.int .i64 (k0 + n)) ∧ Wrote w w' (bmarks g off k0 n) := by
  go_enter Try.func13, Try.ntmps13
  go_wp2
  go_loopw [1, 5] (fun kk i wr => ∃ j : Nat, kk = .int .i64 (k0 + j) ∧ i = .int .i64 (j : Int) ∧ j ≤ n ∧ Wrote w wr (bmarks g off k0 j)) (fun _ i _ => n - (intOf i).toNat)
  case atStart => exact ⟨0, by simp, rfl, Nat.zero_le _, Wrote.nil _⟩
  case round =>
    obtain ⟨j, rfl, rfl, hj, hw⟩ := hrel
    by_cases hlt : j < n
    · have hi : (j : Int) < (n : Int) := by omega
      obtain ⟨u, hu⟩ := hc j hlt
      have hn : ∀ p ∈ bmarks g off k0 j, p.1 ≠ (⟨g, off + j, none⟩ : Addr) := by
        intro p hp e
        obtain ⟨i, hi, e1, _⟩ := bmarks_mem hp
        rw [e1] at e
        have := congrArg Addr.off e
        simp at this
        omega
      have hcell : wr.cell? ⟨g, off + j, none⟩ = some u := by rw [hw.other _ hn]; exact hu
      have hfr : wr.frozen? ⟨g, off + j, none⟩ = false := by rw [hw.frozen]; exact hf j hlt
      have hst := hw.set hn hu (.int .u8 (IntKind.u8.wrap (k0 + j)))
      rw [← bmarks_succ] at hst
      have hb1 : 0 ≤ k0 + j := by omega
      have hb2 : k0 + j ≤ 4611686018427387904 := by omega
      clear hw hn hu hc hf
      go_wp2
      go_roundw
      case rel => exact ⟨j + 1, by go_num, by go_num, by omega, hst⟩
      case measure => simp [intOf]; omega
    · have hlt' : decide ((j : Int) < (n : Int)) = false := by simp; omega
      have hjn : j = n := by omega
      subst hjn
      go_wp2
      go_ret
      exact ⟨rfl, hw⟩

end Go.Proofs.Ytlfkjjnhlkaipaa
