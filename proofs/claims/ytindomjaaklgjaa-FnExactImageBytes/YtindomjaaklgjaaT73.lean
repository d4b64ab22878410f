/- Answers that are one row of numbers: read, kept, marked, held. -/
import Derived.Test.YtindomjaaklgjaaT71
namespace Go.Proofs.Ytindomjaaklgjaa
open Go.RowKit

/-- A row of numbers that can be read. -/
def RdC (q : IntKind) (w : World) (v : Value) (zs : List Int) : Prop := ∃ a cap, v = .slice a zs.length cap ∧ zs.length ≤ 1048576 ∧ ∀ j, j < zs.length → ∃ g off, a = some ⟨g, off, none⟩ ∧ g < w.heap.size ∧ w.cell? ⟨g, off + j, none⟩ = some (.int q (zs.getD j 0))
theorem RdC.later {q : IntKind} {w w' : World} {v : Value} {zs : List Int} (h : RdC q w v zs) (hb : Later w w') : RdC q w' v zs := by
  obtain ⟨a, cap, rfl, hl, hc⟩ := h
  refine ⟨a, cap, rfl, hl, fun j hj => ?_⟩
  obtain ⟨g, off, rfl, hg, hv⟩ := hc j hj
  exact ⟨g, off, rfl, Nat.lt_of_lt_of_le hg hb.size, by rw [Below.cell hb (p := ⟨g, off + j, none⟩) hg]; exact hv⟩
/-- A row of numbers that lies in a block of its own, from base on. -/
def AnsK (q : IntKind) (base : Nat) (w : World) (v : Value) (zs : List Int) : Prop := ∃ a cap, v = .slice a zs.length cap ∧ zs.length ≤ 1048576 ∧ (0 < zs.length → ∃ g, a = some ⟨g, 0, none⟩ ∧ base ≤ g ∧ g < w.heap.size ∧ ∀ j, j < zs.length → w.cell? ⟨g, j, none⟩ = some (.int q (zs.getD j 0)) ∧ w.frozen? ⟨g, j, none⟩ = false)
theorem AnsK.rd {q : IntKind} {base : Nat} {w : World} {v : Value} {zs : List Int} (h : AnsK q base w v zs) : RdC q w v zs := by
  obtain ⟨a, cap, rfl, hl, hc⟩ := h
  refine ⟨a, cap, rfl, hl, fun j hj => ?_⟩
  obtain ⟨g, rfl, _, hg, hh⟩ := hc (by omega)
  exact ⟨g, 0, rfl, hg, by rw [Nat.zero_add]; exact (hh j hj).1⟩
theorem cell_block {w w' : World} {g : Nat} (h : w'.heap[g]? = w.heap[g]?) (o : Nat) : w'.cell? ⟨g, o, none⟩ = w.cell? ⟨g, o, none⟩ ∧ w'.frozen? ⟨g, o, none⟩ = w.frozen? ⟨g, o, none⟩ :=
  ⟨by unfold World.cell?; rw [show w'.heap[(⟨g, o, none⟩ : Addr).block]? = w.heap[(⟨g, o, none⟩ : Addr).block]? from h], by unfold World.frozen?; rw [show w'.heap[(⟨g, o, none⟩ : Addr).block]? = w.heap[(⟨g, o, none⟩ : Addr).block]? from h]⟩
theorem AnsK.keep {q : IntKind} {base : Nat} {w w' : World} {v : Value} {zs : List Int} (h : AnsK q base w v zs) (hs : w.heap.size ≤ w'.heap.size) (hb : ∀ b, base ≤ b → b < w.heap.size → w'.heap[b]? = w.heap[b]?) : AnsK q base w' v zs := by
  obtain ⟨a, cap, rfl, hl, hc⟩ := h
  refine ⟨a, cap, rfl, hl, fun h0 => ?_⟩
  obtain ⟨g, rfl, hg0, hg, hh⟩ := hc h0
  refine ⟨g, rfl, hg0, by omega, fun j hj => ?_⟩
  obtain ⟨e1, e2⟩ := cell_block (hb g hg0 hg) j
  rw [e1, e2]
  exact hh j hj
theorem AnsK.later {q : IntKind} {base : Nat} {w w' : World} {v : Value} {zs : List Int} (h : AnsK q base w v zs) (hl : Later w w') : AnsK q base w' v zs := h.keep hl.size (fun b _ hb => hl.block b hb)
theorem AnsK.mono {q : IntKind} {base base' : Nat} {w : World} {v : Value} {zs : List Int} (h : AnsK q base w v zs) (hb : base' ≤ base) : AnsK q base' w v zs := by
  obtain ⟨a, cap, rfl, hl, hc⟩ := h
  refine ⟨a, cap, rfl, hl, fun h0 => ?_⟩
  obtain ⟨g, rfl, hg0, hg, hh⟩ := hc h0
  exact ⟨g, rfl, by omega, hg, hh⟩
theorem AnsK.nil (q : IntKind) (base : Nat) (w : World) : AnsK q base w (.slice none 0 0) [] := ⟨none, 0, rfl, by decide, fun h => absurd h (by decide)⟩
theorem AnsK.of_row {q : IntKind} {base : Nat} {e : TypeId} {w : World} {v : Value} {zs : List Int} (o : w.ownsRow base e 1 v zs.length (zs.map (Value.int q))) (hl : zs.length ≤ 1048576) : AnsK q base w v zs := by
  rcases o.2 with ⟨rfl, h0⟩ | ⟨g, cap, cur, rfl, hb, hg, _⟩
  · exact ⟨none, 0, by rw [h0], hl, fun h => by omega⟩
  · refine ⟨_, cap, rfl, hl, fun _ => ⟨g, rfl, hb, (Array.getElem?_eq_some_iff.1 hg).1, fun j hj => ⟨?_, o.frozenAt j⟩⟩⟩
    rw [o.cellAt j (by omega), List.getElem?_map, List.getElem?_eq_getElem hj, List.getD_eq_getElem?_getD, List.getElem?_eq_getElem hj]
    rfl
theorem AnsK.shape {q : IntKind} {base : Nat} {w : World} {v : Value} {zs : List Int} (h : AnsK q base w v zs) : ∃ a M cap, v = .slice a M cap ∧ Hid (M = zs.length) := by
  obtain ⟨a, cap, rfl, _⟩ := h
  exact ⟨a, _, cap, rfl, rfl⟩
/-- The row, marked. -/
def MkdK (q : IntKind) (mv : Nat → Int) (base : Nat) (w : World) (v : Value) (n : Nat) : Prop := ∃ a cap, v = .slice a n cap ∧ n ≤ 1048576 ∧ (0 < n → ∃ g, a = some ⟨g, 0, none⟩ ∧ base ≤ g ∧ g < w.heap.size ∧ ∀ j, j < n → w.cell? ⟨g, j, none⟩ = some (.int q (mv j)))
theorem MkdK.keep {q : IntKind} {mv : Nat → Int} {base n : Nat} {w w' : World} {v : Value} (h : MkdK q mv base w v n) (hs : w.heap.size ≤ w'.heap.size) (hb : ∀ b, base ≤ b → b < w.heap.size → w'.heap[b]? = w.heap[b]?) : MkdK q mv base w' v n := by
  obtain ⟨a, cap, rfl, hl, hc⟩ := h
  refine ⟨a, cap, rfl, hl, fun h0 => ?_⟩
  obtain ⟨g, rfl, hg0, hg, hh⟩ := hc h0
  refine ⟨g, rfl, hg0, by omega, fun j hj => ?_⟩
  obtain ⟨e1, _⟩ := cell_block (hb g hg0 hg) j
  rw [e1]
  exact hh j hj
theorem MkdK.later {q : IntKind} {mv : Nat → Int} {base n : Nat} {w w' : World} {v : Value} (h : MkdK q mv base w v n) (hl : Later w w') : MkdK q mv base w' v n := h.keep hl.size (fun b _ hb => hl.block b hb)
/-- Ink in blocks of P leaves alone what lies below, and what lies elsewhere. -/
theorem Inks.below {P : Nat → Prop} {w w' : World} (h : Inks P w w') {B : Nat} (hP : ∀ b, P b → B ≤ b) (hB : B ≤ w.heap.size) : Below B w w' := ⟨h.os, h.tape, h.output, h.size, fun b hb => h.block b (by omega) (fun hp => by have := hP b hp; omega)⟩
theorem Below.cut {w w1 w2 : World} (h : Later w w1) (k : Below w.heap.size w1 w2) : Later w w2 := ⟨k.os.trans h.os, k.tape.trans h.tape, k.output.trans h.output, Nat.le_trans h.size k.size, fun b hb => by rw [k.block b hb, h.block b hb]⟩
theorem Below.less {A B : Nat} {w w' : World} (h : Below B w w') (hA : A ≤ B) : Below A w w' := ⟨h.os, h.tape, h.output, h.size, fun b hb => h.block b (by omega)⟩

def bmv (j : Nat) : Int := IntKind.u8.wrap (1 + (j : Int))
set_option maxHeartbeats 400000 in
theorem markbz_zero (a : Option Addr) (cap : Nat) (k : Int) (w : World) : Calls Try.prog 15 #[.slice a 0 cap, .int .i64 k] w fun e w' => e = .returned (.int .i64 k) ∧ w' = w := by
  go_enter Try.func15, Try.ntmps15
  go_wp2_with fail
  go_loopw [1, 5] (fun kk i wr => kk = .int .i64 k ∧ i = .int .i64 0 ∧ wr = w) (fun _ _ _ => 0)
  case atStart => exact ⟨rfl, rfl, rfl⟩
  case round =>
    obtain ⟨rfl, rfl, rfl⟩ := hrel
    go_wp2_with fail
    go_ret
    exact ⟨rfl, rfl⟩
theorem markb_ans {base : Nat} {zs : List Int} {v : Value} {w : World} (h : AnsK .u8 base w v zs) : Calls Try.prog 15 #[v, .int .i64 1] w fun e w' => e = .returned (.int .i64 (1 + (zs.length : Int))) ∧ Below base w w' ∧ MkdK .u8 bmv base w' v zs.length := by
  obtain ⟨a, cap, rfl, hl, hc⟩ := h
  rcases Nat.eq_zero_or_pos zs.length with q | q
  · rw [q]
    refine (markbz_zero a cap 1 w).mono ?_
    rintro e w' ⟨rfl, rfl⟩
    exact ⟨rfl, Below.refl _ _, a, cap, rfl, by decide, fun h => absurd h (by decide)⟩
  · obtain ⟨g, rfl, hb, hg, hh⟩ := hc q
    refine (markb_any g 0 cap zs.length 1 w (by decide) (by omega) (fun j hj => ⟨_, by rw [Nat.zero_add]; exact (hh j hj).1⟩) (fun j hj => by rw [Nat.zero_add]; exact (hh j hj).2)).mono ?_
    rintro e w' ⟨rfl, hw⟩
    refine ⟨rfl, hw.below (fun p hp => ?_), _, cap, rfl, hl, fun _ => ⟨g, rfl, hb, by rw [hw.size]; exact hg, fun j hj => ?_⟩⟩
    · obtain ⟨j, _, e, _⟩ := bmarks_mem hp
      rw [e]
      exact hb
    · have := hw.cell (⟨g, 0 + j, none⟩, .int .u8 (IntKind.u8.wrap (1 + (j : Int)))) (List.mem_map.2 ⟨j, List.mem_range.2 hj, rfl⟩)
      rw [Nat.zero_add] at this
      exact this
set_option maxHeartbeats 400000 in
theorem heldb_zero (a : Option Addr) (cap : Nat) (k : Int) (w : World) : Calls Try.prog 16 #[.slice a 0 cap, .int .i64 k] w fun e w' => e = .returned (.int .i64 k) ∧ w' = w := by
  go_enter Try.func16, Try.ntmps16
  go_wp2_with fail
  go_loopw [1, 5] (fun kk i wr => kk = .int .i64 k ∧ i = .int .i64 0 ∧ wr = w) (fun _ _ _ => 0)
  case atStart => exact ⟨rfl, rfl, rfl⟩
  case round =>
    obtain ⟨rfl, rfl, rfl⟩ := hrel
    go_wp2_with fail
    go_ret
    exact ⟨rfl, rfl⟩
theorem heldb_ans {base n : Nat} {v : Value} {w : World} (h : MkdK .u8 bmv base w v n) : Calls Try.prog 16 #[v, .int .i64 1] w fun e w' => e = .returned (.int .i64 (1 + (n : Int))) ∧ w' = w := by
  obtain ⟨a, cap, rfl, hl, hc⟩ := h
  rcases Nat.eq_zero_or_pos n with q | q
  · rw [q]
    exact heldb_zero a cap 1 w
  · obtain ⟨g, rfl, hb, hg, hh⟩ := hc q
    refine heldb_any g 0 cap n 1 w (by decide) (by omega) (fun p hp => ?_)
    obtain ⟨j, hj, e1, e2⟩ := bmarks_mem hp
    rw [e1, e2, Nat.zero_add]
    exact hh j hj
set_option maxHeartbeats 400000 in
theorem eqc_same {v1 v2 : Value} {zs : List Int} {w : World} (h1 : RdC .u8 w v1 zs) (h2 : RdC .u8 w v2 zs) :
    Calls Try.prog 13 #[v1, v2] w fun e w' => e = .returned (.bool true) ∧ Later w w' := by
  obtain ⟨a, cap, rfl, hl, hc⟩ := h1
  obtain ⟨a', cap', rfl, _, hc'⟩ := h2
  have hle : ((zs.length : Int) != (zs.length : Int)) = false := by simp
  go_enter Try.func13, Try.ntmps13
  go_wp2
  go_loopw [5] (fun i wr => ∃ (k n : Nat), i = .int .i64 (k : Int) ∧ k ≤ zs.length ∧ wr = w.drewN n) (fun i _ => zs.length - (intOf i).toNat)
  case atStart => exact ⟨0, 0, rfl, Nat.zero_le _, rfl⟩
  case round =>
    obtain ⟨k, n, rfl, hk, rfl⟩ := hrel
    by_cases hlt : k < zs.length
    · obtain ⟨g, off, rfl, _, hv⟩ := hc k hlt
      obtain ⟨g', off', rfl, _, hv'⟩ := hc' k (by omega)
      have i1 : (k : Int) < (zs.length : Int) := by omega
      generalize zs.getD k 0 = z at hv hv'
      have hne : (z != z) = false := by simp
      clear hc hc'
      go_wp2
      go_quiet (fail)
      go_wp2
      go_roundw
      case rel => exact ⟨k + 1, _, by go_num, by omega, rfl⟩
      case measure => simp [intOf]; omega
    · have hlt' : decide ((k : Int) < (zs.length : Int)) = false := by simp; omega
      go_wp2
      go_ret
      exact ⟨rfl, later_drewN (Later.refl _) _⟩

def imv (j : Nat) : Int := 1 + (j : Int)
set_option maxHeartbeats 800000 in
theorem marki_ans {base : Nat} {zs : List Int} {v : Value} {w : World} (h : AnsK .i64 base w v zs) : Calls Try.prog 85 #[v, .int .i64 1] w fun e w' => e = .returned (.int .i64 (1 + (zs.length : Int))) ∧ Below base w w' ∧ MkdK .i64 imv base w' v zs.length := by
  obtain ⟨a, cap, rfl, hl, hc⟩ := h
  generalize hn : zs.length = n at *
  have HC : Hid (0 < n → ∃ g, a = some ⟨g, 0, none⟩ ∧ base ≤ g ∧ g < w.heap.size ∧ ∀ j, j < n → (∃ u, w.cell? ⟨g, j, none⟩ = some u) ∧ w.frozen? ⟨g, j, none⟩ = false) := fun h0 => by
    obtain ⟨g, rfl, h1, h2, h3⟩ := hc h0
    exact ⟨g, rfl, h1, h2, fun j hj => ⟨⟨_, (h3 j hj).1⟩, (h3 j hj).2⟩⟩
  clear hc hn
  go_enter Try.func85, Try.ntmps85
  go_wp2_with fail
  go_loopw [1, 5] (fun kk i wr => ∃ j : Nat, kk = .int .i64 (1 + (j : Int)) ∧ i = .int .i64 (j : Int) ∧ j ≤ n ∧ Below base w wr ∧ Hid (0 < n → ∀ g, a = some ⟨g, 0, none⟩ → (∀ m, m < j → wr.cell? ⟨g, m, none⟩ = some (.int .i64 (imv m))) ∧ (∀ m, j ≤ m → wr.cell? ⟨g, m, none⟩ = w.cell? ⟨g, m, none⟩) ∧ (∀ m, wr.frozen? ⟨g, m, none⟩ = w.frozen? ⟨g, m, none⟩)))
    (fun _ i _ => n - (intOf i).toNat)
  case atStart => exact ⟨0, by simp, rfl, Nat.zero_le _, Below.refl _ _, fun _ g _ => ⟨fun m hm => absurd hm (Nat.not_lt_zero _), fun _ _ => rfl, fun _ => rfl⟩⟩
  case round =>
    obtain ⟨j, rfl, rfl, hj, hB, hI⟩ := hrel
    by_cases hlt : j < n
    · obtain ⟨g, rfl, hb, hg, hh⟩ := HC.out (by omega)
      obtain ⟨⟨u, hu⟩, hf⟩ := hh j hlt
      obtain ⟨h1, h2, h3⟩ := hI.out (by omega) g rfl
      have hz : wr.cell? ⟨g, j, none⟩ = some u := by rw [h2 j (Nat.le_refl _)]; exact hu
      have hfz : wr.frozen? ⟨g, j, none⟩ = false := by rw [h3]; exact hf
      have hi : (j : Int) < (n : Int) := by omega
      have hB2 : Below base w (wr.setCell ⟨g, j, none⟩ (.int .i64 (1 + (j : Int)))) := Below.setCell hB hb _
      have hI2 : Hid (0 < n → ∀ g', (some ⟨g, 0, none⟩ : Option Addr) = some ⟨g', 0, none⟩ → (∀ m, m < j + 1 → (wr.setCell ⟨g, j, none⟩ (.int .i64 (1 + (j : Int)))).cell? ⟨g', m, none⟩ = some (.int .i64 (imv m))) ∧ (∀ m, j + 1 ≤ m → (wr.setCell ⟨g, j, none⟩ (.int .i64 (1 + (j : Int)))).cell? ⟨g', m, none⟩ = w.cell? ⟨g', m, none⟩) ∧ (∀ m, (wr.setCell ⟨g, j, none⟩ (.int .i64 (1 + (j : Int)))).frozen? ⟨g', m, none⟩ = w.frozen? ⟨g', m, none⟩)) := fun _ g' e => by
        cases e
        refine ⟨fun m hm => ?_, fun m hm => ?_, fun m => by rw [World.frozen?_setCell]; exact h3 m⟩
        · rcases Nat.lt_or_ge m j with q | q
          · rw [set_off _ _ _ (by omega)]; exact h1 m q
          · obtain rfl : m = j := by omega
            exact set_same hz
        · rw [set_off _ _ _ (by omega)]; exact h2 m (by omega)
      have hb1 : 0 ≤ 1 + (j : Int) := by omega
      have hb2 : 1 + (j : Int) ≤ 4611686018427387904 := by omega
      clear hI h1 h2 h3 hh HC hB
      go_wp2_with fail
      go_roundw
      case rel => exact ⟨j + 1, by go_num, by go_num, by omega, hB2, hI2⟩
      case measure => simp [intOf]; omega
    · have hlt' : decide ((j : Int) < (n : Int)) = false := by simp; omega
      have hjn : j = n := by omega
      subst hjn
      have HF : Hid (MkdK .i64 imv base wr (.slice a j cap) j) := ⟨a, cap, rfl, hl, fun h0 => by
        obtain ⟨g, rfl, hb, hg, _⟩ := HC.out h0
        exact ⟨g, rfl, hb, Nat.lt_of_lt_of_le hg hB.size, (hI.out h0 g rfl).1⟩⟩
      clear hI HC
      go_wp2_with fail
      go_ret
      exact ⟨rfl, hB, HF.out⟩
set_option maxHeartbeats 800000 in
theorem heldi_ans {base n : Nat} {v : Value} {w : World} (h : MkdK .i64 imv base w v n) : Calls Try.prog 94 #[v, .int .i64 1] w fun e w' => e = .returned (.int .i64 (1 + (n : Int))) ∧ w' = w := by
  obtain ⟨a, cap, rfl, hl, hc⟩ := h
  have HC : Hid (0 < n → ∃ g, a = some ⟨g, 0, none⟩ ∧ ∀ j, j < n → w.cell? ⟨g, j, none⟩ = some (.int .i64 (1 + (j : Int)))) := fun h0 => by
    obtain ⟨g, rfl, _, _, h3⟩ := hc h0
    exact ⟨g, rfl, h3⟩
  clear hc
  go_enter Try.func94, Try.ntmps94
  go_wp2_with fail
  go_loop [1, 5] (fun kk i => ∃ j : Nat, kk = .int .i64 (1 + (j : Int)) ∧ i = .int .i64 (j : Int) ∧ j ≤ n) (fun _ i => n - (intOf i).toNat)
  case atStart => exact ⟨0, by simp, rfl, Nat.zero_le _⟩
  case round =>
    obtain ⟨j, rfl, rfl, hj⟩ := hrel
    by_cases hlt : j < n
    · have hi : (j : Int) < (n : Int) := by omega
      obtain ⟨g, rfl, hh⟩ := HC.out (by omega)
      have hcell := hh j hlt
      have hb1 : 0 ≤ 1 + (j : Int) := by omega
      have hb2 : 1 + (j : Int) ≤ 4611686018427387904 := by omega
      clear hh HC
      go_wp2_with fail
      go_round
      case rel => exact ⟨j + 1, by go_num, by go_num, by omega⟩
      case measure => simp [intOf]; omega
    · have hlt' : decide ((j : Int) < (n : Int)) = false := by simp; omega
      have hjn : j = n := by omega
      subst hjn
      go_wp2_with fail
      go_ret
      exact ⟨rfl, rfl⟩
set_option maxHeartbeats 400000 in
theorem eqi_same {v1 v2 : Value} {zs : List Int} {w : World} (h1 : RdC .i64 w v1 zs) (h2 : RdC .i64 w v2 zs) :
    Calls Try.prog 104 #[v1, v2] w fun e w' => e = .returned (.bool true) ∧ Later w w' := by
  obtain ⟨a, cap, rfl, hl, hc⟩ := h1
  obtain ⟨a', cap', rfl, _, hc'⟩ := h2
  have hle : ((zs.length : Int) != (zs.length : Int)) = false := by simp
  go_enter Try.func104, Try.ntmps104
  go_wp2
  go_loopw [5] (fun i wr => ∃ (k n : Nat), i = .int .i64 (k : Int) ∧ k ≤ zs.length ∧ wr = w.drewN n) (fun i _ => zs.length - (intOf i).toNat)
  case atStart => exact ⟨0, 0, rfl, Nat.zero_le _, rfl⟩
  case round =>
    obtain ⟨k, n, rfl, hk, rfl⟩ := hrel
    by_cases hlt : k < zs.length
    · obtain ⟨g, off, rfl, _, hv⟩ := hc k hlt
      obtain ⟨g', off', rfl, _, hv'⟩ := hc' k (by omega)
      have i1 : (k : Int) < (zs.length : Int) := by omega
      generalize zs.getD k 0 = z at hv hv'
      have hne : (z != z) = false := by simp
      clear hc hc'
      go_wp2
      go_quiet (fail)
      go_wp2
      go_roundw
      case rel => exact ⟨k + 1, _, by go_num, by omega, rfl⟩
      case measure => simp [intOf]; omega
    · have hlt' : decide ((k : Int) < (zs.length : Int)) = false := by simp; omega
      go_wp2
      go_ret
      exact ⟨rfl, later_drewN (Later.refl _) _⟩
end Go.Proofs.Ytindomjaaklgjaa
