/- The walk of the exact law of Lex, out of what Lex answers. -/
import Derived.Test.YtleakieppapjmaaDoorK3
namespace Go.Proofs.YtleakieppapjmaaDoor.KL
open Go.RowKit

set_option maxHeartbeats 400000 in
theorem markt_zero (ta : Option Addr) (cap : Nat) (k0 : Int) (w : World) :
    Calls Tryd.prog 10 #[.slice ta 0 cap, .int .i64 k0] w fun e w' => e = .returned (.int .i64 k0) ∧ w' = w := by
  go_enter Tryd.func10, Tryd.ntmps10
  go_wp2
  go_loop [1, 5] (fun kk i => kk = .int .i64 k0 ∧ i = .int .i64 0) (fun _ _ => 0)
  case atStart => exact ⟨rfl, rfl⟩
  case round =>
    obtain ⟨rfl, rfl⟩ := hrel
    go_wp2
    go_ret
    exact ⟨rfl, rfl⟩
set_option maxHeartbeats 400000 in
theorem heldt_zero (ta : Option Addr) (cap : Nat) (k0 : Int) (w : World) :
    Calls Tryd.prog 11 #[.slice ta 0 cap, .int .i64 k0] w fun e w' => e = .returned (.int .i64 k0) ∧ w' = w := by
  go_enter Tryd.func11, Tryd.ntmps11
  go_wp2
  go_loop [1, 5] (fun kk i => kk = .int .i64 k0 ∧ i = .int .i64 0) (fun _ _ => 0)
  case atStart => exact ⟨rfl, rfl⟩
  case round =>
    obtain ⟨rfl, rfl⟩ := hrel
    go_wp2
    go_ret
    exact ⟨rfl, rfl⟩

theorem lt_of_cell {w : World} {a : Addr} {v : Value} (h : w.cell? a = some v) : a.block < w.heap.size := by
  rcases Nat.lt_or_ge a.block w.heap.size with l | l
  · exact l
  · have : w.heap[a.block]? = none := Array.getElem?_eq_none l
    unfold World.cell? at h
    rw [this] at h
    cases h
theorem cell_of_block {w w' : World} {a : Addr} (h : w'.heap[a.block]? = w.heap[a.block]?) : w'.cell? a = w.cell? a := by
  unfold World.cell?; rw [h]
theorem frozen_of_block {w w' : World} {a : Addr} (h : w'.heap[a.block]? = w.heap[a.block]?) : w'.frozen? a = w.frozen? a := by
  unfold World.frozen?; rw [h]

/-- Tokens whose memory is new from block 'base' on, each place a place of its own. -/
structure OwnT (w : World) (base : Nat) (v : Value) (ts : List Tok) (g off : Nat) (ls : List Lay) : Prop where
  shape : ∃ ta cap, v = .slice ta ts.length cap ∧ (0 < ts.length → ta = some ⟨g, off, none⟩)
  len : ls.length = ts.length
  few : (ts.length : Int) ≤ 1000000000
  short : 1 + tlen ls ≤ 4611686018427387000
  bytes : ∀ j (hj : j < ts.length) i, isB (ts[j].2.2.2.getD i 0)
  size : ∀ j (hj : j < ts.length), (lay ls j).2.2 = ts[j].2.2.2.length ∧ (ts[j].2.2.2.length : Int) ≤ 9223372036854775807
  kind : ∀ j (hj : j < ts.length), w.cell? ⟨g, off + j * 4, none⟩ = some (.int .i64 ts[j].1)
  place : ∀ j (hj : j < ts.length), w.cell? ⟨g, off + j * 4 + 1, none⟩ = some (.int .i64 ts[j].2.1)
  num : ∀ j (hj : j < ts.length), w.cell? ⟨g, off + j * 4 + 2, none⟩ = some (.int .i64 ts[j].2.2.1)
  letter : ∀ j (hj : j < ts.length) i, i < ts[j].2.2.2.length → w.cell? ⟨(lay ls j).1, (lay ls j).2.1 + i, none⟩ = some (.int .u8 (ts[j].2.2.2.getD i 0))
  spots : Spots w g off 1 ls
  fresh : ∀ p ∈ tmarks g off 1 ls ls.length, base ≤ p.1.block

theorem OwnT.first {w : World} {base g off : Nat} {v : Value} {ts : List Tok} {ls : List Lay} (h : OwnT w base v ts g off ls) (hp : 0 < ls.length) : base ≤ g :=
  h.fresh ((⟨g, off + 0 * 4, none⟩ : Addr), .int .i64 (1 + tlen (ls.take 0))) (tmarks_mem hp (List.mem_append_left _ (List.mem_cons_self ..)))
theorem OwnT.agree {w w' : World} {base g off : Nat} {v : Value} {ts : List Tok} {ls : List Lay} (h : OwnT w base v ts g off ls) (ha : ∀ k, base ≤ k → k < w.heap.size → w'.heap[k]? = w.heap[k]?) : OwnT w' base v ts g off ls := by
  have hc : ∀ {a : Addr} {u : Value}, w.cell? a = some u → base ≤ a.block → w'.cell? a = some u := fun hc hb => by rw [cell_of_block (ha _ hb (lt_of_cell hc))]; exact hc
  have hg : ∀ j, j < ts.length → base ≤ g := fun j hj => h.first (by have := h.len; omega)
  refine ⟨h.shape, h.len, h.few, h.short, h.bytes, h.size, fun j hj => hc (h.kind j hj) (hg j hj), fun j hj => hc (h.place j hj) (hg j hj), fun j hj => hc (h.num j hj) (hg j hj), fun j hj i hi => hc (h.letter j hj i hi) ?_, ⟨h.spots.apart, fun p hp => ?_, fun i hi => ?_⟩, h.fresh⟩
  · have hm : ((⟨(lay ls j).1, (lay ls j).2.1 + i, none⟩ : Addr), Value.int .u8 (IntKind.u8.wrap (1 + tlen (ls.take j) + 1 + 1 + 1 + i))) ∈ tmarks g off 1 ls ls.length :=
      tmarks_mem (by rw [h.len]; exact hj) (List.mem_append_right _ (List.mem_map.2 ⟨i, List.mem_range.2 (by rw [(h.size j hj).1]; exact hi), rfl⟩))
    exact h.fresh _ hm
  · obtain ⟨⟨u, hu⟩, hf⟩ := h.spots.there p hp
    have hb := h.fresh p hp
    exact ⟨⟨u, hc hu hb⟩, by rw [frozen_of_block (ha _ hb (lt_of_cell hu))]; exact hf⟩
  · obtain ⟨ta, tc, hcell, h1, h2⟩ := h.spots.text i hi
    exact ⟨ta, tc, hc hcell (h.first (by omega)), h1, h2⟩
theorem OwnT.later {w w' : World} {base g off : Nat} {v : Value} {ts : List Tok} {ls : List Lay} (h : OwnT w base v ts g off ls) (hl : Later w w') : OwnT w' base v ts g off ls := h.agree fun k _ hk => hl.block k hk
theorem OwnT.rd {w : World} {base g off : Nat} {v : Value} {ts : List Tok} {ls : List Lay} (h : OwnT w base v ts g off ls) : RdT w v ts := by
  obtain ⟨ta, cap, rfl, hta⟩ := h.shape
  refine ⟨ta, cap, rfl, h.few, fun j hj => ?_⟩
  obtain ⟨tx, tc, hcell, h1, _⟩ := h.spots.text j (by rw [h.len]; exact hj)
  have hk := h.kind j hj
  rw [(h.size j hj).1] at hcell h1
  refine ⟨g, off, tx, tc, hta (by omega), lt_of_cell hk, hk, h.place j hj, h.num j hj, hcell, tx, tc, rfl, (h.size j hj).2, h.bytes j hj, fun i hi => ?_⟩
  have := h.letter j hj i hi
  exact ⟨_, _, h1 (by omega), lt_of_cell this, this⟩
theorem markt_own {w : World} {base g off : Nat} {v : Value} {ts : List Tok} {ls : List Lay} (h : OwnT w base v ts g off ls) :
    Calls Tryd.prog 10 #[v, .int .i64 1] w fun e w' => e = .returned (.int .i64 (1 + tlen ls)) ∧ Wrote w w' (tmarks g off 1 ls ls.length) := by
  obtain ⟨ta, cap, rfl, hta⟩ := h.shape
  rcases Nat.eq_zero_or_pos ts.length with h0 | h0
  · have hl : ls = [] := List.eq_nil_of_length_eq_zero (by rw [h.len]; exact h0)
    rw [h0, hl]
    refine (markt_zero ta cap 1 w).mono ?_
    rintro e w' ⟨rfl, rfl⟩
    exact ⟨rfl, Wrote.nil _⟩
  · rw [hta h0, ← h.len]
    exact markt_any g off cap 1 ls w (by decide) h.short (by rw [h.len]; exact h.few) h.spots
theorem heldt_own {w w0 : World} {base g off : Nat} {v : Value} {ts : List Tok} {ls : List Lay} (h : OwnT w0 base v ts g off ls) (hm : ∀ p ∈ tmarks g off 1 ls ls.length, w.cell? p.1 = some p.2) (ht : ∀ i, i < ls.length → w.cell? ⟨g, off + i * 4 + 3, none⟩ = w0.cell? ⟨g, off + i * 4 + 3, none⟩) :
    Calls Tryd.prog 11 #[v, .int .i64 1] w fun e w' => e = .returned (.int .i64 (1 + tlen ls)) ∧ w' = w := by
  obtain ⟨ta, cap, rfl, hta⟩ := h.shape
  rcases Nat.eq_zero_or_pos ts.length with h0 | h0
  · have hl : ls = [] := List.eq_nil_of_length_eq_zero (by rw [h.len]; exact h0)
    rw [h0, hl]
    exact heldt_zero ta cap 1 w
  · rw [hta h0, ← h.len]
    refine heldt_any g off cap 1 ls w (by decide) h.short (by rw [h.len]; exact h.few) hm (fun i hi => ?_)
    obtain ⟨tx, tc, hcell, h1, _⟩ := h.spots.text i hi
    exact ⟨tx, tc, by rw [ht i hi]; exact hcell, h1⟩

/-- What Lex answers, as it can be read. -/
def LexR (f : Nat) (T : List Int → List Tok) (B : List Int → Int) : Prop := ∀ (a : Option Addr) (cap : Nat) (zs : List Int) (w : World), RdB w (.slice a zs.length cap) zs → zs.length ≤ 1048576 → zs.length ≤ cap → cap ≤ maxLen →
  Calls Tryd.prog f #[.slice a zs.length cap] w fun e w' => ∃ tv, e = .returned (.tuple #[tv, .int .i64 (B zs)]) ∧ RdT w' tv (T zs) ∧ Later w w'
/-- What Lex answers, with memory of its own. -/
def LexO (f : Nat) (T : List Int → List Tok) (B : List Int → Int) : Prop := ∀ (a : Option Addr) (cap : Nat) (zs : List Int) (w : World), RdB w (.slice a zs.length cap) zs → zs.length ≤ 1048576 → zs.length ≤ cap → cap ≤ maxLen →
  Calls Tryd.prog f #[.slice a zs.length cap] w fun e w' => ∃ tv g off ls, e = .returned (.tuple #[tv, .int .i64 (B zs)]) ∧ OwnT w' w.heap.size tv (T zs) g off ls ∧ Later w w'

theorem own_rdb {w : World} {base g n cap : Nat} {zs : List Int} (h : w.ownsRow base 5 1 (.slice (some ⟨g, 0, none⟩) n cap) n (zs.map (Value.int .u8))) (hl : zs.length = n) (hs : n ≤ 1048576) (hz : ∀ j, isB (zs.getD j 0)) : RdB w (.slice (some ⟨g, 0, none⟩) n cap) zs := by
  subst hl
  refine ⟨_, cap, rfl, by omega, hz, fun j hj => ⟨g, 0, rfl, ?_⟩⟩
  have hc : w.cell? ⟨g, 0 + j, none⟩ = some (.int .u8 (zs.getD j 0)) := by
    rw [Nat.zero_add, h.cellAt j (by omega), List.getElem?_map, List.getElem?_eq_getElem hj, List.getD_eq_getElem?_getD, List.getElem?_eq_getElem hj]
    rfl
  exact ⟨lt_of_cell hc, hc⟩
theorem eqtoks_same {v1 v2 : Value} {ts : List Tok} {w : World} (h1 : RdT w v1 ts) (h2 : RdT w v2 ts) : Calls Tryd.prog 7 #[v1, v2] w fun e w' => e = .returned (.bool true) ∧ Later w w' := by
  have := eqtoks_any v1 v2 ts ts w h1 h2
  rwa [decide_eq_true rfl] at this
theorem eqb_same {v1 v2 : Value} {zs : List Int} {w : World} (h1 : RdB w v1 zs) (h2 : RdB w v2 zs) : Calls Tryd.prog 8 #[v1, v2] w fun e w' => e = .returned (.bool true) ∧ Later w w' :=
  eqb_b (b := true) (show _ = _ from decide_eq_true rfl) h1 h2

set_option maxHeartbeats 4000000 in
theorem lawlex_any {T : List Int → List Tok} {B : List Int → Int} (hS : LexR 4 T B) (hI : LexO 6 T B) (v : Value) (zs : List Int) (w : World) (h : RdB w v zs) :
    Calls Tryd.prog 3 #[v] w fun e w' => e = .returned (.bool true) ∧ Later w w' := by
  obtain ⟨a, cap, rfl, hl, hz, _⟩ := id h
  by_cases hs : zs.length ≤ 1048576
  · have hs' : ¬ (1048576 : Int) < (zs.length : Int) := by omega
    go_enter Tryd.func3, Tryd.ntmps3
    go_wp2_with fail
    refine (tob_any _ zs w hs h).mono ?_
    rintro e w1 ⟨rfl, o1, l1⟩
    have r1 := own_rdb o1 rfl hs hz
    go_wp2_with fail
    refine (hS _ _ zs w1 r1 hs (Nat.le_refl _) (by unfold maxLen; omega)).mono ?_
    rintro e w2 ⟨tv2, rfl, t2, l2⟩
    obtain ⟨a2, p2, rfl, hl2, _⟩ := id t2
    have L2 := l1.trans l2
    clear r1 o1 l1 l2
    go_wp2_with fail
    refine (tob_any _ zs w2 hs (h.later L2)).mono ?_
    rintro e w3 ⟨rfl, o3, l3⟩
    have L3 := L2.trans l3
    have r3 := own_rdb o3 rfl hs hz
    have hn3 : w2.heap.size < w3.heap.size := (o3.lt w2.heap.size rfl).2
    have f3 : ∀ j, w3.frozen? ⟨w2.heap.size, j, none⟩ = false := fun j => o3.frozenAt j
    go_wp2_with fail
    refine (hI _ _ zs w3 r3 hs (Nat.le_refl _) (by unfold maxLen; omega)).mono ?_
    rintro e w4 ⟨tv4, g, off, ls, rfl, t4, l4⟩
    obtain ⟨a4, p4, rfl, hta4⟩ := t4.shape
    have L4 := l3.trans l4
    clear o3 l3
    go_wp2_with fail
    refine (eqtoks_same t4.rd (t2.later L4)).mono ?_
    rintro e w5 ⟨rfl, l5⟩
    have L5 := L4.trans l5
    have M5 := l4.trans l5
    have t5 := t4.later l5
    clear l4 l5 t4 L4
    go_wp2_with fail
    refine (tob_any _ zs w5 hs (h.later (L2.trans L5))).mono ?_
    rintro e w6 ⟨rfl, o6, l6⟩
    have r6 := own_rdb o6 rfl hs hz
    have L6 := L5.trans l6
    have M6 := M5.trans l6
    have t6 := t5.later l6
    clear t5 L5 M5 l6 o6
    go_wp2_with fail
    refine (eqb_same (r3.later M6) r6).mono ?_
    rintro e w7 ⟨rfl, l7⟩
    have L7 := L6.trans l7
    have M7 := M6.trans l7
    have t7 := t6.later l7
    have r7 := (r3.later M6).later l7
    clear t6 L6 M6 l7 r6
    have hmk := markb_any w2.heap.size 0 zs.length zs.length 1 w7 (by decide) (by omega) (fun j hj => by
      obtain ⟨_, _, he, _, _, hc⟩ := r7
      cases he
      obtain ⟨g', off', he, _, hv⟩ := hc j hj
      cases he
      exact ⟨_, hv⟩) (fun j hj => by
      rw [Below.frozen M7 (p := ⟨w2.heap.size, 0 + j, none⟩) hn3, Nat.zero_add]
      exact f3 j)
    have hpos : ¬ 1 + (zs.length : Int) < 0 := by omega
    go_wp2_with fail
    refine hmk.mono ?_
    rintro e w8 ⟨rfl, W8⟩
    have hb8 : ∀ p ∈ bmarks w2.heap.size 0 1 zs.length, p.1.block = w2.heap.size := fun p hp => by
      obtain ⟨i, _, e, _⟩ := bmarks_mem hp
      rw [e]
    have L8 : Later w2 w8 := Below.trans L7 (W8.below (fun p hp => Nat.le_of_eq (hb8 p hp).symm))
    have t8 := t7.agree (w' := w8) (fun k hk _ => W8.block k (fun p hp => by rw [hb8 p hp]; omega))
    clear hmk W8 hb8 t7 L7 M7 r7 f3 r3
    go_wp2_with fail
    refine (eqtoks_same t8.rd (t2.later L8)).mono ?_
    rintro e w9 ⟨rfl, l9⟩
    have t9 := t8.later l9
    have L9 := L8.trans l9
    clear t8 L8 l9
    go_wp2_with fail
    refine (markt_own t9).mono ?_
    rintro e w10 ⟨rfl, W10⟩
    have L10 : Later w2 w10 := Below.trans L9 (W10.below (fun p hp => by have := t9.fresh p hp; omega))
    have hm10 := W10.cell
    have ht10 : ∀ i, i < ls.length → w10.cell? ⟨g, off + i * 4 + 3, none⟩ = w9.cell? ⟨g, off + i * 4 + 3, none⟩ := fun i hi => by
      obtain ⟨_, _, _, _, hne⟩ := t9.spots.text i hi
      exact W10.other _ hne
    have hq0 : ¬ 1 + tlen ls < 0 := by have := tlen_nonneg ls; omega
    clear W10 L9
    go_wp2_with fail
    refine (heldt_own t9 hm10 ht10).mono ?_
    rintro e w11 ⟨rfl, rfl⟩
    go_wp2_with fail
    refine (tob_any _ zs _ hs (h.later (L2.trans L10))).mono ?_
    rintro e w12 ⟨rfl, o12, l12⟩
    have r12 := own_rdb o12 rfl hs hz
    clear o12
    go_wp2_with fail
    refine (hI _ _ zs w12 r12 hs (Nat.le_refl _) (by unfold maxLen; omega)).mono ?_
    rintro e w13 ⟨tv13, g13, off13, ls13, rfl, t13, l13⟩
    obtain ⟨a13, p13, rfl, _⟩ := t13.shape
    have N13 := l12.trans l13
    clear l12 l13 r12
    go_wp2_with fail
    refine (eqtoks_same t13.rd (t2.later (L10.trans N13))).mono ?_
    rintro e w14 ⟨rfl, l14⟩
    have N14 := N13.trans l14
    clear l14 N13 t13
    have hm14 : ∀ p ∈ tmarks g off 1 ls ls.length, w14.cell? p.1 = some p.2 := fun p hp => by
      rw [Below.cell N14 (lt_of_cell (hm10 p hp))]; exact hm10 p hp
    have ht14 : ∀ i, i < ls.length → w14.cell? ⟨g, off + i * 4 + 3, none⟩ = w9.cell? ⟨g, off + i * 4 + 3, none⟩ := fun i hi => by
      obtain ⟨_, _, hcell, _, _⟩ := t9.spots.text i hi
      have h10 := (ht10 i hi).trans hcell
      rw [Below.cell N14 (lt_of_cell h10)]
      exact ht10 i hi
    have L14 := L2.trans (L10.trans N14)
    clear hm10 ht10 N14 L10
    go_wp2_with fail
    refine (heldt_own t9 hm14 ht14).mono ?_
    rintro e w15 ⟨rfl, rfl⟩
    clear hm14 ht14
    go_wp2_with fail
    go_ret
    exact ⟨rfl, L14⟩
  · have hs' : (1048576 : Int) < (zs.length : Int) := by omega
    go_enter Tryd.func3, Tryd.ntmps3
    go_wp2_with fail
    go_ret
    exact ⟨rfl, Later.refl _⟩

end Go.Proofs.YtleakieppapjmaaDoor.KL
