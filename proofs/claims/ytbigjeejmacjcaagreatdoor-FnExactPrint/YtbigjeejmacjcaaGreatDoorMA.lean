/- Several of my texts in one: T46, T47, T48, T49, T50, T51, T52, T53, T54, T55, T56, T57, T58. -/
import Derived.Test.YtbigjeejmacjcaaGreatDoorMG
import Derived.Test.YtbigjeejmacjcaaGreatDoorT42
import Derived.Handy
import Derived.Laws.BytesArg
import Derived.Deep.RegionHeld3
/- The program's printer: its state, the end of a line. -/
namespace Go.Proofs.YtbigjeejmacjcaaGreatDoor
open Go.RowKit Go.Lib
/-- Whatever is no row of bytes, block K aside, is as it was. -/
def KP (K : Nat) (A w : World) : Prop := A.heap.size ≤ w.heap.size ∧ ∀ (k : Nat) (C : Array Value) (t : TypeId) (fz : Nat × Nat), k ≠ K → A.heap[k]? = some (.cells C t fz) → t ≠ 5 → w.heap[k]? = A.heap[k]?
theorem KP.refl (K : Nat) (w : World) : KP K w w := ⟨Nat.le_refl _, fun _ _ _ _ _ _ _ => rfl⟩
theorem KP.trans {K : Nat} {a b c : World} (h : KP K a b) (g : KP K b c) : KP K a c := ⟨Nat.le_trans h.1 g.1, fun k C t fz hn hk ht => by
  have e := h.2 k C t fz hn hk ht
  rw [g.2 k C t fz hn (by rw [e]; exact hk) ht, e]⟩
theorem K8.kp {a b : World} (K : Nat) (h : K8 a b) : KP K a b := ⟨h.1, fun k C t fz _ hk ht => h.2 k C t fz hk ht⟩
theorem set_grown (w : World) (K i : Nat) (u : Value) : w.grownBy (w.setCell ⟨K, i, none⟩ u) (some K) := ⟨rfl, rfl, rfl, by simp, fun k _ hk => heap_setCell_other w ⟨K, i, none⟩ k u (fun e => hk (by simp [e]))⟩
theorem kp_set (w : World) (K i : Nat) (u : Value) : KP K w (w.setCell ⟨K, i, none⟩ u) := ⟨(set_grown w K i u).size, fun k _ _ _ hn hk _ => (set_grown w K i u).block k (lt_of_some hk) (fun e => hn (by cases e; rfl))⟩
/-- The printer at K under way: its structs sv, its text zs. -/
structure Pr (K : Nat) (A W w : World) (sv tv : Value) (zs : List Int) : Prop where
  row : w.heap[K]? = some (.cells #[sv, tv] 49)
  own : w.ownsRow W.heap.size 5 1 tv zs.length (zs.map (Value.int .u8))
  lat : Later W w
  new : W.heap.size ≤ K
  kp : KP K A w
theorem Pr.ne {K : Nat} {A W w : World} {sv tv : Value} {zs : List Int} (h : Pr K A W w sv tv zs) : tv.ownBlock ≠ some K := fun e => by
  rcases h.own.2 with ⟨rfl, _⟩ | ⟨g, cap, cur, rfl, _, hg, _⟩
  · cases e
  · have e' : g = K := by cases e; rfl
    rw [e', h.row] at hg
    simp at hg
theorem Pr.later {K : Nat} {A W w w' : World} {sv tv : Value} {zs : List Int} (h : Pr K A W w sv tv zs) (l : Later w w') : Pr K A W w' sv tv zs :=
  ⟨by rw [l.block K (lt_of_some h.row)]; exact h.row, later_ownb h.own l, h.lat.trans l, h.new, h.kp.trans (l.k8.kp K)⟩
theorem Pr.alloc {K : Nat} {A W w : World} {sv tv : Value} {zs : List Int} (h : Pr K A W w sv tv zs) (o : Obj) : Pr K A W (w.alloc o) sv tv zs := h.later (later1 _ _)
theorem Pr.text {K : Nat} {A W w : World} {sv tv : Value} {zs : List Int} (h : Pr K A W w sv tv zs) : w.cell? ⟨K, 1, none⟩ = some tv := by
  show (match w.heap[K]? with | some (.cells c _ _) => c[1]? | _ => none) = some tv
  rw [h.row]
  rfl
theorem Pr.structs {K : Nat} {A W w : World} {sv tv : Value} {zs : List Int} (h : Pr K A W w sv tv zs) : w.cell? ⟨K, 0, none⟩ = some sv := by
  show (match w.heap[K]? with | some (.cells c _ _) => c[0]? | _ => none) = some sv
  rw [h.row]
  rfl
/-- The text grows, and is put back into the printer. -/
theorem Pr.put {K : Nat} {A W w w3 : World} {sv tv v3 : Value} {zs ts : List Int} {n : Nat} {X : List Value} (h : Pr K A W w sv tv zs) (o : w3.ownsRow W.heap.size 5 1 v3 (zs.length + n) (zs.map (Value.int .u8) ++ X)) (hn : n = ts.length) (hX : X = ts.map (Value.int .u8)) (g : w.grownBy w3 tv.ownBlock) :
    w3.heap[K]? = some (.cells #[sv, tv] 49) ∧ Pr K A W (w3.setCell ⟨K, 1, none⟩ v3) sv v3 (zs ++ ts) := by
  subst hn hX
  have hr : w3.heap[K]? = some (.cells #[sv, tv] 49) := by rw [g.block K (lt_of_some h.row) (fun e => h.ne e.symm)]; exact h.row
  have hne : v3.ownBlock = none ∨ v3.ownBlock ≠ some K := .inr fun e => by
    rcases o.2 with ⟨rfl, _⟩ | ⟨g', cap, cur, rfl, _, hg, _⟩
    · cases e
    · have e' : g' = K := by cases e; rfl
      rw [e', hr] at hg
      simp at hg
  have hL : Later W w3 := h.lat.trans' g (own_lt_b h.own)
  refine ⟨hr, ?_, ?_, ?_, h.new, ?_⟩
  · rw [heap_setCell_same w3 K 1 _ _ v3 hr]; rfl
  · rw [List.length_append, List.map_append]; exact o.kept (set_grown w3 K 1 v3) hne
  · exact hL.trans' (v := .slice (some ⟨K, 0, none⟩) 0 0) (set_grown w3 K 1 v3) (fun b e => by cases e; exact h.new)
  · exact (h.kp.trans ((K8.grown h.own g).kp K)).trans (kp_set w3 K 1 v3)
theorem Pr.shape {K : Nat} {A W w : World} {sv tv : Value} {zs : List Int} (h : Pr K A W w sv tv zs) : ∃ a M cap, tv = .slice a M cap ∧ Hid (M = zs.length) := by
  rcases h.own.2 with ⟨rfl, h0⟩ | ⟨g, cap, _, rfl, _⟩
  · exact ⟨_, _, _, rfl, by rw [h0]; rfl⟩
  · exact ⟨_, _, _, rfl, rfl⟩
theorem row_text {K : Nat} {w : World} {sv tv : Value} (hr : w.heap[K]? = some (.cells #[sv, tv] 49)) : w.cell? ⟨K, 1, none⟩ = some tv ∧ w.frozen? ⟨K, 1, none⟩ = false := by
  refine ⟨?_, ?_⟩
  · show (match w.heap[K]? with | some (.cells c _ _) => c[1]? | _ => none) = some tv
    rw [hr]
    rfl
  · simp [World.frozen?, hr]
def PrP (K : Nat) (A W : World) (sv : Value) (zs : List Int) (e : Ending) (w' : World) : Prop := e = .returned (.tuple #[]) ∧ ∃ tv, Pr K A W w' sv tv zs
set_option maxRecDepth 20000 in
set_option maxHeartbeats 1000000 in
theorem endLine_any (K : Nat) (A W w : World) (sv tv : Value) (zs : List Int) (h : Pr K A W w sv tv zs) (hb : zs.length ≤ 1000000) :
    Calls Tryz.prog 36 #[.pointer (some ⟨K, 0, none⟩)] w (PrP K A W sv (zs ++ [10])) := by
  obtain ⟨i0, hi, hz0, hz1, hz2⟩ := info_parts Tryz.info5
  obtain ⟨a, M, cap, rfl, hM⟩ := h.shape
  have q1 := h.text
  have hK := lt_of_some h.row
  have hB := h.alloc (.cells #[.int .u8 10] 5)
  go_enter Tryz.func36, Tryz.ntmps36
  go_wp2_with (at_builtin; refine wpList_append_own _ rfl _ _ 27 rfl W.heap.size 5 i0 (.int .u8 0) 1 1 Tryz.underlying27 hi hz0 hz1 hz2 rfl (by decide) (.slice a M cap) _ _ rfl hB.own ⟨w.heap.size, 0, none⟩ 1 1 [.int .u8 10] rfl rfl (new_oneb _ _) (by simp [Value.oneCell']) (by unfold maxLen; omega) (by omega) hB.lat.size ?_; intro v3 w3 o3 g3 _; obtain ⟨hr3, hp3⟩ := hB.put o3 (ts := [10]) rfl rfl g3; obtain ⟨q3, f3⟩ := row_text hr3; clear hr3; obtain ⟨a3, M3, p3, rfl, hM3⟩ := hp3.shape)
  refine bodyPost_end (results_none rfl _ _ _) rfl ?_
  exact ⟨rfl, _, hp3⟩
end Go.Proofs.YtbigjeejmacjcaaGreatDoor
/- The program's printer: tokens put behind a text. -/
namespace Go.Proofs.YtbigjeejmacjcaaGreatDoor
open Go.RowKit Go.Lib
/-- A string's bytes as numbers. -/
def bytesOf (s : ByteArray) : List Int := s.data.toList.map fun b => (b.toNat : Int)
theorem strCells_bytes (s : ByteArray) : strCells s = (bytesOf s).map (Value.int .u8) := by
  unfold strCells bytesOf
  rw [List.map_map]
  rfl
theorem bytesOf_len (s : ByteArray) : (bytesOf s).length = s.size := by
  unfold bytesOf
  rw [List.length_map, Array.length_toList]
  rfl
/-- Tokens put behind a text, one by one. -/
def putsL (b : List Int) : List (List Int) → List Int
  | [] => b
  | t :: r => putsL (putL b t) r
theorem putsL_step : ∀ (ts : List (List Int)) (b : List Int) (j : Nat) (h : j < ts.length), putsL b (ts.take (j + 1)) = putL (putsL b (ts.take j)) ts[j]
  | t :: r, b, 0, _ => by simp [putsL]
  | t :: r, b, j + 1, h => by
    rw [List.take_succ_cons, List.take_succ_cons, putsL, putsL]
    exact putsL_step r _ j (by simpa using h)
def roomL : List (List Int) → Nat
  | [] => 0
  | t :: r => t.length + 1 + roomL r
theorem putL_len (b t : List Int) : (putL b t).length ≤ b.length + (t.length + 1) := by
  unfold putL
  by_cases h : midB b = true
  · rw [if_pos h, List.length_append, List.length_cons]; omega
  · rw [if_neg h, List.length_append]; omega
theorem putsL_room : ∀ (ts : List (List Int)) (b : List Int) (j : Nat) (h : j < ts.length), (putsL b (ts.take j)).length + (ts[j].length + 1) ≤ b.length + roomL ts
  | t :: r, b, 0, _ => by simp [putsL, roomL]
  | t :: r, b, j + 1, h => by
    have := putsL_room r (putL b t) j (by simpa using h)
    have h2 := putL_len b t
    rw [List.take_succ_cons, putsL, roomL]
    simp only [List.getElem_cons_succ]
    omega
theorem Pr.from {K : Nat} {A W w : World} {sv tv : Value} {zs : List Int} (h : Pr K A W w sv tv zs) : Pr K w W w sv tv zs := ⟨h.row, h.own, h.lat, h.new, KP.refl K w⟩
theorem Pr.back {K : Nat} {A B W w : World} {sv tv : Value} {zs : List Int} (h : Pr K B W w sv tv zs) (k : KP K A B) : Pr K A W w sv tv zs := ⟨h.row, h.own, h.lat, h.new, k.trans h.kp⟩
/-- Tokens handed on: strings in a row of their own. -/
def Toks (w : World) (g : Nat) (ss : List ByteArray) : Prop := ∃ fz, w.heap[g]? = some (.cells (ss.map Value.string).toArray 9 fz)
theorem Toks.at {K : Nat} {A W w : World} {sv tv : Value} {zs : List Int} {g : Nat} {ss : List ByteArray} (t : Toks w g ss) (h : Pr K A W w sv tv zs) {w' : World} (k : KP K w w') (j : Nat) (hj : j < ss.length) : w'.cell? ⟨g, j, none⟩ = some (.string ss[j]) := by
  obtain ⟨fz, hg⟩ := t
  have hne : g ≠ K := fun e => by rw [e, h.row] at hg; simp at hg
  have hg' : w'.heap[g]? = some (.cells (ss.map Value.string).toArray 9 fz) := by rw [k.2 g _ _ _ hne hg (by decide)]; exact hg
  show (match w'.heap[g]? with | some (.cells c _ _) => c[j]? | _ => none) = _
  rw [hg']
  simp [hj]
theorem Pr.last {K : Nat} {A W w : World} {sv tv : Value} {zs : List Int} (h : Pr K A W w sv tv zs) (N : Nat) (hN : zs.length = N + 1) : ∃ g cap, tv = .slice (some ⟨g, 0, none⟩) (N + 1) cap ∧ w.cell? ⟨g, N, none⟩ = some (.int .u8 (zs.getLast?.getD 0)) := by
  obtain ⟨g, q, e, _, _, hc⟩ := row_cells h.own (by omega)
  refine ⟨g, q, by rw [e, hN], ?_⟩
  have := hc N (.int .u8 (zs.getLast?.getD 0)) (by rw [List.getElem?_map, List.getLast?_eq_getElem?, hN]; simp [hN])
  simpa [Addr.add_lit] using this
set_option maxRecDepth 20000 in
set_option maxHeartbeats 1000000 in
theorem put_any (K g : Nat) (A W w : World) (sv tv : Value) (zs : List Int) (ss : List ByteArray) (h : Pr K A W w sv tv zs) (ht : Toks w g ss) (hs : ss.length ≤ 1000) (hb : zs.length + roomL (ss.map bytesOf) ≤ 1000000) :
    Calls Tryz.prog 35 #[.pointer (some ⟨K, 0, none⟩), .slice (some ⟨g, 0, none⟩) ss.length ss.length] w (PrP K A W sv (putsL zs (ss.map bytesOf))) := by
  obtain ⟨i0, hi, hz0, hz1, hz2⟩ := info_parts Tryz.info5
  have HT : Hid (∀ w', KP K w w' → ∀ j (hj : j < ss.length), w'.cell? ⟨g, j, none⟩ = some (.string ss[j])) := fun w' k j hj => ht.at h k j hj
  have HF : Hid (∀ w' tv', Pr K w W w' sv tv' (putsL zs (ss.map bytesOf)) → PrP K A W sv (putsL zs (ss.map bytesOf)) (.returned (.tuple #[])) w') := fun w' tv' hp => ⟨rfl, tv', hp.back h.kp⟩
  have hp0 := h.from
  have hroom : Hid (∀ j (hj : j < ss.length), (putsL zs ((ss.map bytesOf).take j)).length + ((bytesOf ss[j]).length + 1) ≤ 1000000) := fun j hj => by
    have := putsL_room (ss.map bytesOf) zs j (by simpa using hj)
    rw [List.getElem_map] at this
    omega
  have hstep : Hid (∀ j (hj : j < ss.length), putsL zs ((ss.map bytesOf).take (j + 1)) = putL (putsL zs ((ss.map bytesOf).take j)) (bytesOf ss[j])) := fun j hj => by
    rw [putsL_step _ _ j (by simpa using hj), List.getElem_map]
  have hend : Hid ((ss.map bytesOf).take ss.length = ss.map bytesOf) := by
    show List.take _ _ = _
    rw [show ss.length = (ss.map bytesOf).length by simp, List.take_length]
  generalize hQ : PrP K A W sv (putsL zs (ss.map bytesOf)) = Q
  rw [hQ] at HF
  clear hQ ht h hb
  go_enter Tryz.func35, Tryz.ntmps35
  go_wp2_with fail
  go_loopw [8] (fun i wr => ∃ (j : Nat) (tv' : Value), i = .int .i64 (j : Int) ∧ j ≤ ss.length ∧ Pr K w W wr sv tv' (putsL zs ((ss.map bytesOf).take j))) (fun i _ => ss.length - (intOf i).toNat)
  case atStart => exact ⟨0, tv, rfl, Nat.zero_le _, by simpa [putsL] using hp0⟩
  case round =>
    obtain ⟨j, tv', rfl, hj, hp⟩ := hrel
    by_cases hlt : j < ss.length
    · have i1 : (j : Int) < (ss.length : Int) := by omega
      have hc := HT.out _ hp.kp j hlt
      have hr := hroom.out j hlt
      have hst := hstep.out j hlt
      have hl := bytesOf_len ss[j]
      have hsc := strCells_bytes ss[j]
      have HS : Hid (∀ w' v', Pr K w W w' sv v' (putL (putsL zs ((ss.map bytesOf).take j)) (bytesOf ss[j])) → ∃ (j' : Nat) (t' : Value), Value.int .i64 ((j : Int) + 1) = .int .i64 (j' : Int) ∧ j' ≤ ss.length ∧ Pr K w W w' sv t' (putsL zs ((ss.map bytesOf).take j'))) := fun w' v' hp' => ⟨j + 1, v', by go_num, by omega, by rw [hst]; exact hp'⟩
      clear hst
      generalize putsL zs ((ss.map bytesOf).take j) = xs at *
      generalize ss[j] = s at *
      have hK := lt_of_some hp.row
      have q1 := hp.text
      rcases Nat.eq_zero_or_pos xs.length with h0 | h0
      · have hmid : midB xs = false := by rw [List.eq_nil_of_length_eq_zero h0]; rfl
        rw [putL_new hmid] at HS
        obtain ⟨a, M, cap, rfl, hM⟩ := hp.shape
        obtain rfl : M = 0 := by rw [hM.out, h0]
        go_wp2_with fail
        go_quiet (fail)
        have hpq := hp.later (later_drewN (Later.refl wr) nq)
        go_wp2_with (at_builtin; refine Go.Lib.wpList_append_own_string _ rfl _ _ 27 9 rfl W.heap.size 5 i0 Tryz.underlying27 Tryz.underlying9 hi hz0 hz1 hz2 (.slice a 0 cap) _ _ rfl hpq.own s rfl (by unfold maxLen; omega) (by omega) hpq.lat.size ?_; intro v5 w5 o5 g5 _; obtain ⟨hr5, hp5⟩ := hpq.put o5 (ts := bytesOf s) hl.symm hsc g5; obtain ⟨q5, f5⟩ := row_text hr5; clear hr5; obtain ⟨a5, M5, p5, rfl, hM5⟩ := hp5.shape)
        refine ⟨HS.out _ _ hp5, ?_⟩
        simp only [intOf]
        omega
      · obtain ⟨N, hN⟩ : ∃ N, xs.length = N + 1 := ⟨xs.length - 1, by omega⟩
        obtain ⟨gb, cap, rfl, qb⟩ := hp.last N hN
        by_cases hz : xs.getLast?.getD 0 = 10
        · have hmid : midB xs = false := by
            unfold midB
            cases hx : xs.getLast? with
            | none => rfl
            | some z => rw [hx] at hz; simp at hz; simp [hz]
          rw [putL_new hmid] at HS
          rw [hz] at qb
          have hNN : Hid (xs.length = N + 1) := hN
          go_wp2_with fail
          go_quiet (fail)
          have hpq := hp.later (later_drewN (Later.refl wr) nq)
          go_wp2_with (at_builtin; refine Go.Lib.wpList_append_own_string _ rfl _ _ 27 9 rfl W.heap.size 5 i0 Tryz.underlying27 Tryz.underlying9 hi hz0 hz1 hz2 (.slice (some ⟨gb, 0, none⟩) (N + 1) cap) _ _ rfl hpq.own s rfl (by unfold maxLen; omega) (by omega) hpq.lat.size ?_; intro v5 w5 o5 g5 _; obtain ⟨hr5, hp5⟩ := hpq.put o5 (ts := bytesOf s) hl.symm hsc g5; obtain ⟨q5, f5⟩ := row_text hr5; clear hr5; obtain ⟨a5, M5, p5, rfl, hM5⟩ := hp5.shape)
          refine ⟨HS.out _ _ hp5, ?_⟩
          simp only [intOf]
          omega
        · have hmid : midB xs = true := by
            unfold midB
            cases hx : xs.getLast? with
            | none => rw [List.getLast?_eq_none_iff] at hx; rw [hx] at hN; simp at hN
            | some z => rw [hx] at hz; simpa using hz
          rw [putL_mid hmid] at HS
          generalize hzz : xs.getLast?.getD 0 = z at *
          clear hzz
          go_wp2_with fail
          go_quiet (fail)
          have hB := (hp.later (later_drewN (Later.refl wr) nq)).alloc (.cells #[.int .u8 32] 5)
          go_wp2_with (first | ((have _g := hp3); (at_builtin; refine Go.Lib.wpList_append_own_string _ rfl _ _ 27 9 rfl W.heap.size 5 i0 Tryz.underlying27 Tryz.underlying9 hi hz0 hz1 hz2 (.slice a3 M3 p3) _ _ rfl hp3.own s rfl (by unfold maxLen; omega) (by omega) hp3.lat.size ?_; intro v5 w5 o5 g5 _; obtain ⟨hr5, hp5⟩ := hp3.put o5 (ts := bytesOf s) hl.symm hsc g5; obtain ⟨q5, f5⟩ := row_text hr5; clear hr5; obtain ⟨a5, M5, p5, rfl, hM5⟩ := hp5.shape)) | (at_builtin; refine wpList_append_own _ rfl _ _ 27 rfl W.heap.size 5 i0 (.int .u8 0) 1 1 Tryz.underlying27 hi hz0 hz1 hz2 rfl (by decide) (.slice (some ⟨gb, 0, none⟩) (N + 1) cap) _ _ rfl hB.own ⟨(wr.drewN nq).heap.size, 0, none⟩ 1 1 [.int .u8 32] rfl rfl (new_oneb _ _) (by simp [Value.oneCell']) (by unfold maxLen; omega) (by omega) hB.lat.size ?_; intro v3 w3 o3 g3 _; obtain ⟨hr3, hp3⟩ := hB.put o3 (ts := [32]) rfl rfl g3; obtain ⟨q3, f3⟩ := row_text hr3; clear hr3; obtain ⟨a3, M3, p3, rfl, hM3⟩ := hp3.shape; have hl3 : (xs ++ [32]).length = xs.length + 1 := (by simp); have q4 := hp3.text))
          rw [List.append_assoc] at hp5
          refine ⟨HS.out _ _ hp5, ?_⟩
          simp only [intOf]
          omega
    · have hje : j = ss.length := by omega
      have i1 : ¬ (j : Int) < (ss.length : Int) := by omega
      rw [hje, hend.out] at hp
      go_wp2_with fail
      refine bodyPost_end (results_none rfl _ _ _) rfl ?_
      exact HF.out _ _ hp
end Go.Proofs.YtbigjeejmacjcaaGreatDoor
/- The program's printer: what tokens come to; names as strings; types. -/
namespace Go.Proofs.YtbigjeejmacjcaaGreatDoor
open Go.RowKit Go.Lib
/-- A piece that begins with a blank, put behind a text. -/
def atL (b t : List Int) : List Int := b ++ (if midB b then t else t.drop 1)
theorem atL_nil (b : List Int) : atL b [] = b := by unfold atL; simp
theorem putL_at (b t : List Int) : putL b t = atL b (32 :: t) := by
  unfold putL atL
  by_cases h : midB b = true
  · rw [if_pos h, if_pos h]
  · rw [if_neg h, if_neg h]; rfl
theorem atL_mid {b : List Int} (h : midB b = true) (t : List Int) : atL b t = b ++ t := by unfold atL; rw [if_pos h]
theorem atL_new {b : List Int} (h : midB b = false) (t : List Int) : atL b t = b ++ t.drop 1 := by unfold atL; rw [if_neg (by rw [h]; exact Bool.false_ne_true)]
theorem atL_len (b t : List Int) : (atL b t).length ≤ b.length + t.length := by
  unfold atL
  by_cases h : midB b = true
  · rw [if_pos h, List.length_append]; omega
  · rw [if_neg h, List.length_append, List.length_drop]; omega
structure Good (t : List Int) : Prop where
  two : 2 ≤ t.length
  mid : midB t = true
theorem Good.drop {t : List Int} (h : Good t) : midB (t.drop 1) = true := by
  match t, h with
  | [], h => exact absurd h.two (by simp)
  | [_], h => exact absurd h.two (by simp)
  | a :: b :: r, h =>
    have := h.mid
    unfold midB at this ⊢
    rw [List.getLast?_cons_cons] at this
    exact this
theorem midB_at (b : List Int) {t : List Int} (h : Good t) : midB (atL b t) = true := by
  unfold atL
  refine midB_append b ?_
  by_cases hm : midB b = true
  · rw [if_pos hm]; exact h.mid
  · rw [if_neg hm]; exact h.drop
theorem atL_at (b : List Int) {t : List Int} (h : Good t) (u : List Int) : atL (atL b t) u = atL b (t ++ u) := by
  rw [atL_mid (midB_at b h)]
  unfold atL
  by_cases hm : midB b = true
  · rw [if_pos hm, if_pos hm, List.append_assoc]
  · rw [if_neg hm, if_neg hm, List.append_assoc, List.drop_append_of_le_length (by have := h.two; omega)]
theorem Good.app {t u : List Int} (h : Good t) (g : Good u) : Good (t ++ u) := ⟨by have := h.two; rw [List.length_append]; omega, midB_append t g.mid⟩
theorem Good.cons {t : List Int} (h : midB t = true) : Good (32 :: t) := ⟨by
  cases t with
  | nil => exact absurd h (by decide)
  | cons a r => simp, midB_append [32] h⟩
def spread : List (List Int) → List Int
  | [] => []
  | t :: r => 32 :: t ++ spread r
theorem roomL_spread (ts : List (List Int)) : roomL ts = (spread ts).length := by
  induction ts with
  | nil => rfl
  | cons t r ih => rw [roomL, spread, List.length_append, List.length_cons, ih]
theorem putsL_at : ∀ (ts : List (List Int)) (b : List Int), (∀ t ∈ ts, midB t = true) → putsL b ts = atL b (spread ts)
  | [], b, _ => by rw [putsL, spread, atL_nil]
  | t :: r, b, h => by
    rw [putsL, putsL_at r _ (fun x hx => h x (List.mem_cons_of_mem _ hx)), putL_at, atL_at b (Good.cons (h t (List.mem_cons_self ..))), spread]
/-- Tokens put behind a text. -/
theorem put_at (K g : Nat) (A W w : World) (sv tv : Value) (zs : List Int) (ss : List ByteArray) (T : List Int) (hT : spread (ss.map bytesOf) = T) (h : Pr K A W w sv tv zs) (ht : Toks w g ss) (hm : ∀ t ∈ ss.map bytesOf, midB t = true) (hb : zs.length + T.length ≤ 1000000) (hs : ss.length ≤ 1000) (n : Nat) (hn : n = ss.length) :
    Calls Tryz.prog 35 #[.pointer (some ⟨K, 0, none⟩), .slice (some ⟨g, 0, none⟩) n n] w (PrP K A W sv (atL zs T)) := by
  subst hT hn
  rw [← putsL_at _ _ hm]
  exact put_any K g A W w sv tv zs ss h ht hs (by rw [roomL_spread]; exact hb)
theorem Toks.new (w : World) (ss : List ByteArray) : Toks (w.alloc (.cells (ss.map Value.string).toArray 9)) w.heap.size ss := ⟨(0, 0), by show (w.heap.push _)[w.heap.size]? = _; simp⟩
/-- One, two, three, four tokens in a new row. -/
theorem put1 (K : Nat) (A W w : World) (sv tv : Value) (zs : List Int) (s0 : ByteArray) (T : List Int) (hT : spread [bytesOf s0] = T) (h : Pr K A W w sv tv zs) (h0 : midB (bytesOf s0) = true) (hb : zs.length + T.length ≤ 1000000) (b : Nat) (hbk : b = w.heap.size) :
    Calls Tryz.prog 35 #[.pointer (some ⟨K, 0, none⟩), .slice (some ⟨b, 0, none⟩) 1 1] (w.alloc (.cells #[.string s0] 9)) (PrP K A W sv (atL zs T)) := by
  subst hbk
  exact put_at K _ A W _ sv tv zs [s0] T hT (h.alloc _) (Toks.new w [s0]) (by intro t ht; simp at ht; subst ht; exact h0) hb (by simp) 1 rfl
theorem put2 (K : Nat) (A W w : World) (sv tv : Value) (zs : List Int) (s0 s1 : ByteArray) (T : List Int) (hT : spread [bytesOf s0, bytesOf s1] = T) (h : Pr K A W w sv tv zs) (h0 : midB (bytesOf s0) = true) (h1 : midB (bytesOf s1) = true) (hb : zs.length + T.length ≤ 1000000) (b : Nat) (hbk : b = w.heap.size) :
    Calls Tryz.prog 35 #[.pointer (some ⟨K, 0, none⟩), .slice (some ⟨b, 0, none⟩) 2 2] (w.alloc (.cells #[.string s0, .string s1] 9)) (PrP K A W sv (atL zs T)) := by
  subst hbk
  exact put_at K _ A W _ sv tv zs [s0, s1] T hT (h.alloc _) (Toks.new w [s0, s1]) (by intro t ht; simp at ht; rcases ht with rfl | rfl; exact h0; exact h1) hb (by simp) 2 rfl
theorem put3 (K : Nat) (A W w : World) (sv tv : Value) (zs : List Int) (s0 s1 s2 : ByteArray) (T : List Int) (hT : spread [bytesOf s0, bytesOf s1, bytesOf s2] = T) (h : Pr K A W w sv tv zs) (h0 : midB (bytesOf s0) = true) (h1 : midB (bytesOf s1) = true) (h2 : midB (bytesOf s2) = true) (hb : zs.length + T.length ≤ 1000000) (b : Nat) (hbk : b = w.heap.size) :
    Calls Tryz.prog 35 #[.pointer (some ⟨K, 0, none⟩), .slice (some ⟨b, 0, none⟩) 3 3] (w.alloc (.cells #[.string s0, .string s1, .string s2] 9)) (PrP K A W sv (atL zs T)) := by
  subst hbk
  exact put_at K _ A W _ sv tv zs [s0, s1, s2] T hT (h.alloc _) (Toks.new w [s0, s1, s2]) (by intro t ht; simp at ht; rcases ht with rfl | rfl | rfl; exact h0; exact h1; exact h2) hb (by simp) 3 rfl
theorem put4 (K : Nat) (A W w : World) (sv tv : Value) (zs : List Int) (s0 s1 s2 s3 : ByteArray) (T : List Int) (hT : spread [bytesOf s0, bytesOf s1, bytesOf s2, bytesOf s3] = T) (h : Pr K A W w sv tv zs) (h0 : midB (bytesOf s0) = true) (h1 : midB (bytesOf s1) = true) (h2 : midB (bytesOf s2) = true) (h3 : midB (bytesOf s3) = true) (hb : zs.length + T.length ≤ 1000000) (b : Nat) (hbk : b = w.heap.size) :
    Calls Tryz.prog 35 #[.pointer (some ⟨K, 0, none⟩), .slice (some ⟨b, 0, none⟩) 4 4] (w.alloc (.cells #[.string s0, .string s1, .string s2, .string s3] 9)) (PrP K A W sv (atL zs T)) := by
  subst hbk
  exact put_at K _ A W _ sv tv zs [s0, s1, s2, s3] T hT (h.alloc _) (Toks.new w [s0, s1, s2, s3]) (by intro t ht; simp at ht; rcases ht with rfl | rfl | rfl | rfl; exact h0; exact h1; exact h2; exact h3) hb (by simp) 4 rfl
/-- A name as a string. -/
theorem bytesOf_nums (nm : List Int) (h : ∀ z ∈ nm, 0 ≤ z ∧ z ≤ 255) : bytesOf (strOfNums nm) = nm := by
  unfold bytesOf
  rw [strOfNums_data, List.map_map]
  conv => rhs; rw [← List.map_id nm]
  refine List.map_congr_left fun z hz => ?_
  obtain ⟨h0, h1⟩ := h z hz
  show ((UInt8.ofNat z.toNat).toNat : Int) = z
  rw [UInt8.toNat_ofNat']
  omega
theorem nm_string {W : World} {v : Value} {nm : List Int} (h : RdN W v nm) (h1 : 1 ≤ nm.length) : ∃ (s : ByteArray) (g off q : Nat), v = .slice (some ⟨g, off, none⟩) nm.length q ∧ g < W.heap.size ∧ bytesOf s = nm ∧ ∀ w', Later W w' → (convert 27 9 (.slice (some ⟨g, off, none⟩) nm.length q)).run Tryz.prog w' = .ok (.string s) w' := by
  obtain ⟨y, q, rfl, hyl, hyb, hyc⟩ := h.rd
  obtain ⟨g0, off0, rfl, hg0, _⟩ := hyc 0 (by omega)
  refine ⟨strOfNums nm, g0, off0, q, rfl, hg0, ?_, fun w' hw => ?_⟩
  · refine bytesOf_nums nm fun z hz => ?_
    obtain ⟨j, hj, rfl⟩ := List.mem_iff_getElem.1 hz
    have := hyb j
    rw [List.getD_eq_getElem?_getD, List.getElem?_eq_getElem hj] at this
    exact ⟨this.1, by have := this.2; simp at this; omega⟩
  · refine run_convert_bytes_arg w' 27 5 Tryz.underlying27 Tryz.underlying5 g0 off0 nm.length q nm rfl (fun i hi => ?_) 9 Tryz.underlying9
    obtain ⟨g', off', e, _, hv⟩ := hyc i hi
    cases e
    rw [hw.cell (p := ⟨g0, off0 + i, none⟩) hg0, hv]
theorem Pr.at {K : Nat} {A W w : World} {sv tv : Value} {zs : List Int} (h : Pr K A W w sv tv zs) {p : Addr} {u : Value} (hp : p.block < W.heap.size) (hc : W.cell? p = some u) : w.cell? p = some u := by rw [h.lat.cell hp]; exact hc
def StrP (w : World) (nm : List Int) (e : Ending) (w' : World) : Prop := ∃ s, e = .returned (.string s) ∧ bytesOf s = nm ∧ w' = w
set_option maxRecDepth 20000 in
set_option maxHeartbeats 1000000 in
theorem structName_any (K : Nat) (A W w : World) (sv tv : Value) (zs : List Int) (l : List Sc) (n : Int) (h : Pr K A W w sv tv zs) (hl : RdL W 2 sv (Sc.dats l)) (h0 : 0 ≤ n) (h1 : n < l.length) (hnm : 1 ≤ (nmAt l n).length) :
    Calls Tryz.prog 64 #[.pointer (some ⟨K, 0, none⟩), .int .i64 n] w (StrP w (nmAt l n)) := by
  obtain ⟨N, rfl⟩ : ∃ N : Nat, n = N := ⟨n.toNat, by omega⟩
  have hN : N < l.length := by omega
  obtain ⟨sa, scap, rfl, hsl⟩ := Sc.slice hl
  obtain ⟨g, off, v0, v1, rfl, hg, hc0, hc1, hr0, hr1⟩ := Sc.elem hl N hN
  have he : nmAt l (N : Int) = l[N].name := by unfold nmAt; rw [Int.toNat_natCast, List.getElem?_eq_getElem hN]
  rw [he] at hnm ⊢
  generalize l[N].name = nm at *
  obtain ⟨s, g0, off0, q, rfl, hg0, hb, hcv⟩ := nm_string hr0 hnm
  have q0 := h.structs
  have c0 := h.at hg hc0
  have cv := hcv w h.lat
  have HF : Hid (StrP w nm (.returned (.string s)) w) := ⟨s, rfl, hb, rfl⟩
  generalize hQ : StrP w nm = Q
  rw [hQ] at HF
  clear hQ hcv hb he hc0 hc1 hr0 hr1 hl
  go_enter Tryz.func64, Tryz.ntmps64
  go_wp2_with fail
  exact HF.out
end Go.Proofs.YtbigjeejmacjcaaGreatDoor
/- The program's printer: types, parameters. -/
namespace Go.Proofs.YtbigjeejmacjcaaGreatDoor
open Go.RowKit Go.Lib
set_option maxRecDepth 20000 in
set_option maxHeartbeats 1000000 in
theorem ty_1 (K : Nat) (A W w : World) (sv tv : Value) (zs : List Int) (l : List Sc) (n : Int) (h : Pr K A W w sv tv zs) (hb : zs.length + (sayTy l 1 n).length ≤ 1000000) :
    Calls Tryz.prog 38 #[.pointer (some ⟨K, 0, none⟩), .agg #[.int .i64 1, .int .i64 n]] w (PrP K A W sv (atL zs (sayTy l 1 n))) := by
  have hA := h.alloc (.cells #[.int .i64 1, .int .i64 n] 55)
  have hK := lt_of_some h.row
  go_enter Tryz.func38, Tryz.ntmps38
  go_wp2_with fail
  refine (put1 K A W _ sv tv zs ⟨#[105, 110, 116]⟩ (sayTy l 1 n) rfl hA (by decide) hb _ (by simp)).mono ?_
  rintro e w2 ⟨rfl, t2, hp2⟩
  go_wp2_with fail
  refine bodyPost_end (results_none rfl _ _ _) rfl ?_
  exact ⟨rfl, _, hp2⟩
set_option maxRecDepth 20000 in
set_option maxHeartbeats 1000000 in
theorem ty_2 (K : Nat) (A W w : World) (sv tv : Value) (zs : List Int) (l : List Sc) (n : Int) (h : Pr K A W w sv tv zs) (hb : zs.length + (sayTy l 2 n).length ≤ 1000000) :
    Calls Tryz.prog 38 #[.pointer (some ⟨K, 0, none⟩), .agg #[.int .i64 2, .int .i64 n]] w (PrP K A W sv (atL zs (sayTy l 2 n))) := by
  have hA := h.alloc (.cells #[.int .i64 2, .int .i64 n] 55)
  have hK := lt_of_some h.row
  go_enter Tryz.func38, Tryz.ntmps38
  go_wp2_with fail
  refine (put1 K A W _ sv tv zs ⟨#[102, 108, 111, 97, 116]⟩ (sayTy l 2 n) rfl hA (by decide) hb _ (by simp)).mono ?_
  rintro e w2 ⟨rfl, t2, hp2⟩
  go_wp2_with fail
  refine bodyPost_end (results_none rfl _ _ _) rfl ?_
  exact ⟨rfl, _, hp2⟩
set_option maxRecDepth 20000 in
set_option maxHeartbeats 1000000 in
theorem ty_3 (K : Nat) (A W w : World) (sv tv : Value) (zs : List Int) (l : List Sc) (n : Int) (h : Pr K A W w sv tv zs) (hb : zs.length + (sayTy l 3 n).length ≤ 1000000) (hl : RdL W 2 sv (Sc.dats l)) (h0 : 0 ≤ n) (h1 : n < l.length) (hnm : 1 ≤ (nmAt l n).length ∧ midB (nmAt l n) = true) :
    Calls Tryz.prog 38 #[.pointer (some ⟨K, 0, none⟩), .agg #[.int .i64 3, .int .i64 n]] w (PrP K A W sv (atL zs (sayTy l 3 n))) := by
  have hA := h.alloc (.cells #[.int .i64 3, .int .i64 n] 55)
  have hK := lt_of_some h.row
  go_enter Tryz.func38, Tryz.ntmps38
  go_wp2_with fail
  refine (structName_any K A W _ sv tv zs l n hA hl h0 h1 hnm.1).mono ?_
  rintro e w1 ⟨s, rfl, hs, hw⟩
  obtain rfl := hw.symm
  clear hw
  have hs1 : midB (bytesOf s) = true := by rw [hs]; exact hnm.2
  go_wp2_with fail
  refine (put2 K A W _ sv tv zs ⟨#[42]⟩ s (sayTy l 3 n) (by rw [hs]; simp [spread, bytesOf, sayTy]; done) hA (by decide) hs1 hb _ (by simp)).mono ?_
  rintro e w2 ⟨rfl, t2, hp2⟩
  go_wp2_with fail
  refine bodyPost_end (results_none rfl _ _ _) rfl ?_
  exact ⟨rfl, _, hp2⟩
set_option maxRecDepth 20000 in
set_option maxHeartbeats 1000000 in
theorem ty_4 (K : Nat) (A W w : World) (sv tv : Value) (zs : List Int) (l : List Sc) (n : Int) (h : Pr K A W w sv tv zs) (hb : zs.length + (sayTy l 4 n).length ≤ 1000000) :
    Calls Tryz.prog 38 #[.pointer (some ⟨K, 0, none⟩), .agg #[.int .i64 4, .int .i64 n]] w (PrP K A W sv (atL zs (sayTy l 4 n))) := by
  have hA := h.alloc (.cells #[.int .i64 4, .int .i64 n] 55)
  have hK := lt_of_some h.row
  go_enter Tryz.func38, Tryz.ntmps38
  go_wp2_with fail
  refine (put3 K A W _ sv tv zs ⟨#[91]⟩ ⟨#[93]⟩ ⟨#[105, 110, 116]⟩ (sayTy l 4 n) rfl hA (by decide) (by decide) (by decide) hb _ (by simp)).mono ?_
  rintro e w2 ⟨rfl, t2, hp2⟩
  go_wp2_with fail
  refine bodyPost_end (results_none rfl _ _ _) rfl ?_
  exact ⟨rfl, _, hp2⟩
set_option maxRecDepth 20000 in
set_option maxHeartbeats 1000000 in
theorem ty_5 (K : Nat) (A W w : World) (sv tv : Value) (zs : List Int) (l : List Sc) (n : Int) (h : Pr K A W w sv tv zs) (hb : zs.length + (sayTy l 5 n).length ≤ 1000000) :
    Calls Tryz.prog 38 #[.pointer (some ⟨K, 0, none⟩), .agg #[.int .i64 5, .int .i64 n]] w (PrP K A W sv (atL zs (sayTy l 5 n))) := by
  have hA := h.alloc (.cells #[.int .i64 5, .int .i64 n] 55)
  have hK := lt_of_some h.row
  go_enter Tryz.func38, Tryz.ntmps38
  go_wp2_with fail
  refine (put3 K A W _ sv tv zs ⟨#[91]⟩ ⟨#[93]⟩ ⟨#[102, 108, 111, 97, 116]⟩ (sayTy l 5 n) rfl hA (by decide) (by decide) (by decide) hb _ (by simp)).mono ?_
  rintro e w2 ⟨rfl, t2, hp2⟩
  go_wp2_with fail
  refine bodyPost_end (results_none rfl _ _ _) rfl ?_
  exact ⟨rfl, _, hp2⟩
set_option maxRecDepth 20000 in
set_option maxHeartbeats 1000000 in
theorem ty_6 (K : Nat) (A W w : World) (sv tv : Value) (zs : List Int) (l : List Sc) (n : Int) (h : Pr K A W w sv tv zs) (hb : zs.length + (sayTy l 6 n).length ≤ 1000000) (hl : RdL W 2 sv (Sc.dats l)) (h0 : 0 ≤ n) (h1 : n < l.length) (hnm : 1 ≤ (nmAt l n).length ∧ midB (nmAt l n) = true) :
    Calls Tryz.prog 38 #[.pointer (some ⟨K, 0, none⟩), .agg #[.int .i64 6, .int .i64 n]] w (PrP K A W sv (atL zs (sayTy l 6 n))) := by
  have hA := h.alloc (.cells #[.int .i64 6, .int .i64 n] 55)
  have hK := lt_of_some h.row
  go_enter Tryz.func38, Tryz.ntmps38
  go_wp2_with fail
  refine (structName_any K A W _ sv tv zs l n hA hl h0 h1 hnm.1).mono ?_
  rintro e w1 ⟨s, rfl, hs, hw⟩
  obtain rfl := hw.symm
  clear hw
  have hs1 : midB (bytesOf s) = true := by rw [hs]; exact hnm.2
  go_wp2_with fail
  refine (put4 K A W _ sv tv zs ⟨#[91]⟩ ⟨#[93]⟩ ⟨#[42]⟩ s (sayTy l 6 n) (by rw [hs]; simp [spread, bytesOf, sayTy]; done) hA (by decide) (by decide) (by decide) hs1 hb _ (by simp)).mono ?_
  rintro e w2 ⟨rfl, t2, hp2⟩
  go_wp2_with fail
  refine bodyPost_end (results_none rfl _ _ _) rfl ?_
  exact ⟨rfl, _, hp2⟩
set_option maxRecDepth 20000 in
set_option maxHeartbeats 1000000 in
theorem ty_0 (K : Nat) (A W w : World) (sv tv : Value) (zs : List Int) (n : Int) (h : Pr K A W w sv tv zs) :
    Calls Tryz.prog 38 #[.pointer (some ⟨K, 0, none⟩), .agg #[.int .i64 0, .int .i64 n]] w (PrP K A W sv zs) := by
  have hA := h.alloc (.cells #[.int .i64 0, .int .i64 n] 55)
  go_enter Tryz.func38, Tryz.ntmps38
  go_wp2_with fail
  refine bodyPost_end (results_none rfl _ _ _) rfl ?_
  exact ⟨rfl, _, hA⟩
/-- Structs' names are tokens. -/
def NamesTok (l : List Sc) : Prop := ∀ x ∈ l, (1 ≤ x.name.length ∧ x.name.length ≤ 1000) ∧ midB x.name = true
theorem NamesTok.at {l : List Sc} (h : NamesTok l) {n : Int} (h0 : 0 ≤ n) (h1 : n < l.length) : 1 ≤ (nmAt l n).length ∧ midB (nmAt l n) = true := by
  have hN : n.toNat < l.length := by omega
  have he : nmAt l n = l[n.toNat].name := by unfold nmAt; rw [List.getElem?_eq_getElem hN]
  have := h _ (List.getElem_mem hN)
  rw [he]
  exact ⟨this.1.1, this.2⟩
/-- A type that can be told. -/
def TyFine (l : List Sc) (k n : Int) : Prop := 0 ≤ k ∧ k ≤ 6 ∧ (k = 3 ∨ k = 6 → 0 ≤ n ∧ n < l.length)
theorem pty_any (K : Nat) (A W w : World) (sv tv : Value) (zs : List Int) (l : List Sc) (k n : Int) (h : Pr K A W w sv tv zs) (hl : RdL W 2 sv (Sc.dats l)) (hnm : NamesTok l) (ht : TyFine l k n) (hb : zs.length + (sayTy l k n).length ≤ 1000000) :
    Calls Tryz.prog 38 #[.pointer (some ⟨K, 0, none⟩), .agg #[.int .i64 k, .int .i64 n]] w (PrP K A W sv (atL zs (sayTy l k n))) := by
  obtain ⟨k0, k6, hn⟩ := ht
  have : k = 0 ∨ k = 1 ∨ k = 2 ∨ k = 3 ∨ k = 4 ∨ k = 5 ∨ k = 6 := by omega
  obtain rfl | rfl | rfl | rfl | rfl | rfl | rfl := this
  · rw [show sayTy l 0 n = [] from rfl, atL_nil]; exact ty_0 K A W w sv tv zs n h
  · exact ty_1 K A W w sv tv zs l n h hb
  · exact ty_2 K A W w sv tv zs l n h hb
  · exact ty_3 K A W w sv tv zs l n h hb hl (hn (.inl rfl)).1 (hn (.inl rfl)).2 (hnm.at (hn (.inl rfl)).1 (hn (.inl rfl)).2)
  · exact ty_4 K A W w sv tv zs l n h hb
  · exact ty_5 K A W w sv tv zs l n h hb
  · exact ty_6 K A W w sv tv zs l n h hb hl (hn (.inr rfl)).1 (hn (.inr rfl)).2 (hnm.at (hn (.inr rfl)).1 (hn (.inr rfl)).2)
theorem ty_good {l : List Sc} (hnm : NamesTok l) {k n : Int} (ht : TyFine l k n) : sayTy l k n = [] ∨ Good (sayTy l k n) := by
  obtain ⟨k0, k6, hn⟩ := ht
  have : k = 0 ∨ k = 1 ∨ k = 2 ∨ k = 3 ∨ k = 4 ∨ k = 5 ∨ k = 6 := by omega
  obtain rfl | rfl | rfl | rfl | rfl | rfl | rfl := this
  · exact .inl rfl
  · exact .inr ⟨by simp [sayTy], rfl⟩
  · exact .inr ⟨by simp [sayTy], rfl⟩
  · exact .inr ⟨by show 2 ≤ ([32, 42, 32] ++ nmAt l n).length; simp, midB_append _ (hnm.at (hn (.inl rfl)).1 (hn (.inl rfl)).2).2⟩
  · exact .inr ⟨by simp [sayTy], rfl⟩
  · exact .inr ⟨by simp [sayTy], rfl⟩
  · exact .inr ⟨by show 2 ≤ ([32, 91, 32, 93, 32, 42, 32] ++ nmAt l n).length; simp, midB_append _ (hnm.at (hn (.inr rfl)).1 (hn (.inr rfl)).2).2⟩
/-- A block that is no row of bytes, and not the printer's. -/
theorem BxT.kp {b K : Nat} {A : World} {cs : List Value} {t : TypeId} (h : BxT b A cs t) (ht : t ≠ 5) (hK : b ≠ K) (i : Nat) (u : Value) (hu : cs[i]? = some u) : ∀ w', KP K A w' → w'.cell? ⟨b, i, none⟩ = some u := fun w' k => BxT.cell (t := t) (by unfold BxT at h ⊢; rw [k.2 b _ _ _ hK h ht]; exact h) i u hu
set_option maxRecDepth 20000 in
set_option maxHeartbeats 1000000 in
theorem param_any (K : Nat) (A W w : World) (sv tv v0 : Value) (zs : List Int) (l : List Sc) (nm : List Int) (k n : Int) (h : Pr K A W w sv tv zs) (hl : RdL W 2 sv (Sc.dats l)) (hnm : NamesTok l) (ht : TyFine l k n) (h0 : RdN W v0 nm) (hm : midB nm = true) (h1 : 1 ≤ nm.length) (hb : zs.length + (32 :: (nm ++ sayTy l k n)).length ≤ 1000000) :
    Calls Tryz.prog 37 #[.pointer (some ⟨K, 0, none⟩), .agg #[v0, .int .i64 k, .int .i64 n]] w (PrP K A W sv (atL zs (32 :: (nm ++ sayTy l k n)))) := by
  obtain ⟨s, g0, off0, q, rfl, hg0, hs, hcv⟩ := nm_string h0 h1
  obtain ⟨w1, hw1⟩ : ∃ w1, Hid (w1 = w.alloc (.cells #[.slice (some ⟨g0, off0, none⟩) nm.length q, .int .i64 k, .int .i64 n] 75)) := ⟨_, rfl⟩
  have hK := lt_of_some h.row
  have hA : Pr K A W w1 sv tv zs := by rw [hw1.out]; exact h.alloc _
  have hsz : Hid (w.heap.size + 1 = w1.heap.size) := by rw [hw1.out]; show _ = _; simp
  have hbx : BxT w.heap.size w1 [.slice (some ⟨g0, off0, none⟩) nm.length q, .int .i64 k, .int .i64 n] 75 := by rw [hw1.out]; exact BxT.new w _ _
  have HQ1 : Hid (∀ w', KP K w1 w' → w'.cell? ⟨w.heap.size, 1, none⟩ = some (.int .i64 k)) := hbx.kp (by decide) (by omega) 1 _ rfl
  have HQ2 : Hid (∀ w', KP K w1 w' → w'.cell? ⟨w.heap.size, 2, none⟩ = some (.int .i64 n)) := hbx.kp (by decide) (by omega) 2 _ rfl
  have hs1 : midB (bytesOf s) = true := by rw [hs]; exact hm
  have cv := hcv w1 hA.lat
  have HF : Hid (∀ w' t', Pr K w1 W w' sv t' (atL zs (32 :: (nm ++ sayTy l k n))) → PrP K A W sv (atL zs (32 :: (nm ++ sayTy l k n))) (.returned (.tuple #[])) w') := fun w' t' hp => ⟨rfl, t', hp.back hA.kp⟩
  have hA1 := hA.from
  have hl1 : (atL zs (32 :: nm)).length ≤ zs.length + (nm.length + 1) := by have := atL_len zs (32 :: nm); simpa using this
  have hl2 : (32 :: (nm ++ sayTy l k n)).length = nm.length + (sayTy l k n).length + 1 := by simp
  have hat := atL_at zs (Good.cons hm) (sayTy l k n)
  rw [hl2] at hb
  generalize hQ : PrP K A W sv (atL zs (32 :: (nm ++ sayTy l k n))) = Q
  rw [hQ] at HF
  clear hQ hA h hbx hcv h0
  rw [hw1.out] at cv
  go_enter Tryz.func37, Tryz.ntmps37
  go_wp2_with fail
  rw [← hw1.out]
  refine (put1 K w1 W w1 sv tv zs s (32 :: nm) (by rw [hs]; simp [spread]) hA1 hs1 (by rw [List.length_cons]; omega) _ hsz.out).mono ?_
  rintro e w2 ⟨rfl, t2, hp2⟩
  have q1 := HQ1.out _ hp2.kp
  have q2 := HQ2.out _ hp2.kp
  go_wp2_with fail
  refine (pty_any K w1 W w2 sv t2 _ l k n hp2 hl hnm ht (by omega)).mono ?_
  rintro e w3 ⟨rfl, t3, hp3⟩
  rw [hat] at hp3
  go_wp2_with fail
  refine bodyPost_end (results_none rfl _ _ _) rfl ?_
  exact HF.out _ _ hp3
end Go.Proofs.YtbigjeejmacjcaaGreatDoor
/- The program's printer: expressions side by side. -/
namespace Go.Proofs.YtbigjeejmacjcaaGreatDoor
open Go.RowKit Go.Lib
def tailG (sg : List Int) : List (List Int) → List Int
  | [] => []
  | x :: r => (32 :: sg) ++ x ++ tailG sg r
/-- Pieces with a sign between each two. -/
def joinG (sg : List Int) : List (List Int) → List Int
  | [] => []
  | x :: r => x ++ tailG sg r
theorem tailG_app (sg : List Int) (x y : List (List Int)) : tailG sg (x ++ y) = tailG sg x ++ tailG sg y := by
  induction x with
  | nil => rfl
  | cons a r ih => rw [List.cons_append, tailG, tailG, ih]; simp only [List.append_assoc]
theorem joinG_step (sg : List Int) (ts : List (List Int)) (j : Nat) (h : j < ts.length) : joinG sg (ts.take (j + 1)) = joinG sg (ts.take j) ++ (if j = 0 then [] else 32 :: sg) ++ ts[j] := by
  cases ts with
  | nil => simp at h
  | cons x r =>
    cases j with
    | zero => simp [joinG, tailG]
    | succ j =>
      have hj : j < r.length := by simpa using h
      rw [List.take_succ_cons, List.take_succ_cons, joinG, joinG, List.take_add_one, tailG_app, List.getElem?_eq_getElem hj]
      simp [tailG]
theorem joinG_pre (sg : List Int) (ts : List (List Int)) (j : Nat) : (joinG sg (ts.take j)).length ≤ (joinG sg ts).length := by
  have h : ∀ x y : List (List Int), (joinG sg x).length ≤ (joinG sg (x ++ y)).length := by
    intro x y
    cases x with
    | nil => simp [joinG]
    | cons a r => rw [List.cons_append, joinG, joinG, tailG_app]; simp only [List.length_append]; omega
  have := h (ts.take j) (ts.drop j)
  rwa [List.take_append_drop] at this
theorem joinG_at (sg : List Int) (ts : List (List Int)) (j : Nat) (h : j < ts.length) : (joinG sg (ts.take j)).length + (if j = 0 then 0 else sg.length + 1) + ts[j].length ≤ (joinG sg ts).length := by
  have h1 := joinG_pre sg ts (j + 1)
  rw [joinG_step sg ts j h] at h1
  by_cases h0 : j = 0
  · rw [if_pos h0] at h1 ⊢; simp only [List.length_append, List.length_nil] at h1; omega
  · rw [if_neg h0] at h1 ⊢; simp only [List.length_append, List.length_cons] at h1; omega
theorem tailG_comma (ts : List (List Int)) : tailG [44] ts = tailL ts := by
  induction ts with
  | nil => rfl
  | cons x r ih => rw [tailG, tailL, ih]
theorem joinG_comma (ts : List (List Int)) : joinG [44] ts = joinL ts := by
  cases ts with
  | nil => rfl
  | cons x r => rw [joinG, joinL, tailG_comma]
theorem joinG_good (sg : List Int) (hsg : midB sg = true) (ts : List (List Int)) (hg : ∀ t ∈ ts, Good t) : ∀ j, 0 < j → j ≤ ts.length → Good (joinG sg (ts.take j)) := by
  intro j h0 hj
  induction j with
  | zero => exact absurd h0 (Nat.lt_irrefl _)
  | succ j ih =>
    rw [joinG_step sg ts j hj]
    have hG := hg _ (List.getElem_mem hj)
    by_cases hz : j = 0
    · subst hz
      simpa [joinG] using hG
    · rw [if_neg hz]
      exact ((ih (by omega) (by omega)).app (Good.cons hsg)).app hG
/-- The kid at j reads as an expression whose text is t, and the program's printer puts it. -/
def KidP (W : World) (sv v1 : Value) (m j : Nat) (t : List Int) : Prop := j < m ∧ ∃ (g off cap : Nat) (k n tk tn : Int) (x0 x1 : Option Addr) (y0 z0 y1 z1 : Nat), v1 = .slice (some ⟨g, off, none⟩) m cap ∧ g < W.heap.size ∧
  (∀ w', Later W w' → w'.cell? ⟨g, off + j * 6, none⟩ = some (.int .i64 k) ∧ w'.cell? ⟨g, off + j * 6 + 1, none⟩ = some (.int .i64 n) ∧ w'.cell? ⟨g, off + j * 6 + 2, none⟩ = some (.int .i64 tk) ∧ w'.cell? ⟨g, off + j * 6 + 3, none⟩ = some (.int .i64 tn) ∧ w'.cell? ⟨g, off + j * 6 + 4, none⟩ = some (.slice x0 y0 z0) ∧ w'.cell? ⟨g, off + j * 6 + 5, none⟩ = some (.slice x1 y1 z1)) ∧
  (∀ K A w tv zs, Pr K A W w sv tv zs → zs.length + t.length ≤ 1000000 → Calls Tryz.prog 88 #[.pointer (some ⟨K, 0, none⟩), .agg #[.int .i64 k, .int .i64 n, .int .i64 tk, .int .i64 tn, .slice x0 y0 z0, .slice x1 y1 z1]] w (PrP K A W sv (atL zs t)))
def KidsP (W : World) (sv v1 : Value) (ts : List (List Int)) : Prop := ∃ a1 cap1, v1 = .slice a1 ts.length cap1 ∧ (∀ t ∈ ts, Good t) ∧ ∀ (j : Nat) (hj : j < ts.length), KidP W sv (.slice a1 ts.length cap1) ts.length j ts[j]
set_option maxRecDepth 20000 in
set_option maxHeartbeats 4000000 in
theorem exprs_of (K : Nat) (A W w : World) (sv tv v1 : Value) (zs sg : List Int) (s : ByteArray) (ts : List (List Int)) (h : Pr K A W w sv tv zs) (hks : KidsP W sv v1 ts) (hs : bytesOf s = sg) (hsg : midB sg = true) (hts : ts.length ≤ 1000) (hb : zs.length + (joinG sg ts).length ≤ 1000000) :
    Calls Tryz.prog 87 #[.pointer (some ⟨K, 0, none⟩), v1, .string s] w (PrP K A W sv (atL zs (joinG sg ts))) := by
  obtain ⟨a1, cap1, rfl, hg, hk⟩ := hks
  have hs1 : midB (bytesOf s) = true := by rw [hs]; exact hsg
  have hsp : Hid (spread [bytesOf s] = 32 :: sg) := by show _ = _; rw [hs]; simp [spread]
  have hss : Hid (bytesOf s = sg) := hs
  have hgd : Hid (∀ j, 0 < j → j ≤ ts.length → Good (joinG sg (ts.take j))) := joinG_good sg hsg ts hg
  have HKs : Hid (∀ (j : Nat) (hj : j < ts.length), KidP W sv (.slice a1 ts.length cap1) ts.length j ts[j]) := hk
  have HF : Hid (∀ w' t', Pr K w W w' sv t' (atL zs (joinG sg ts)) → PrP K A W sv (atL zs (joinG sg ts)) (.returned (.tuple #[])) w') := fun w' t' hp => ⟨rfl, t', hp.back h.kp⟩
  have hp0 := h.from
  generalize hQ : PrP K A W sv (atL zs (joinG sg ts)) = Q
  rw [hQ] at HF
  clear hQ hk h hs hg
  go_enter Tryz.func87, Tryz.ntmps87
  go_wp2_with fail
  go_loopw [10] (fun i wr => ∃ (j : Nat) (tv' : Value), i = .int .i64 (j : Int) ∧ j ≤ ts.length ∧ Pr K w W wr sv tv' (atL zs (joinG sg (ts.take j)))) (fun i _ => ts.length - (intOf i).toNat)
  case atStart => exact ⟨0, tv, rfl, Nat.zero_le _, by rw [List.take_zero, joinG, atL_nil]; exact hp0⟩
  case round =>
    obtain ⟨j, tv', rfl, hj, hp⟩ := hrel
    by_cases hlt : j < ts.length
    · obtain ⟨_, g, off, cap', k, n', tk', tn', x0, x1, y0, z0, y1, z1, e1, hgs, hcl, hcall⟩ := HKs.out j hlt
      cases e1
      obtain ⟨d0, d1, d2, d3, d4, d5⟩ := hcl _ hp.lat
      have hat := joinG_at sg ts j hlt
      have i1 : (j : Int) < (ts.length : Int) := by omega
      have hl1 := atL_len zs (joinG sg (ts.take j))
      obtain ⟨wb, hwb⟩ : ∃ wb, Hid (wb = wr.alloc (.cells #[.int .i64 k, .int .i64 n', .int .i64 tk', .int .i64 tn', .slice x0 y0 z0, .slice x1 y1 z1] 107)) := ⟨_, rfl⟩
      have hK := lt_of_some hp.row
      have hpb : Pr K w W wb sv tv' (atL zs (joinG sg (ts.take j))) := by rw [hwb.out]; exact hp.alloc _
      have hbx : BxT wr.heap.size wb [.int .i64 k, .int .i64 n', .int .i64 tk', .int .i64 tn', .slice x0 y0 z0, .slice x1 y1 z1] 107 := by rw [hwb.out]; exact BxT.new wr _ _
      have hsz : Hid (wr.heap.size + 1 = wb.heap.size) := by rw [hwb.out]; show _ = _; simp
      clear hcl
      by_cases h0 : j = 0
      · rw [if_pos h0] at hat
        have hst := joinG_step sg ts j hlt
        rw [if_pos h0] at hst
        have he : atL (atL zs (joinG sg (ts.take j))) ts[j] = atL zs (joinG sg (ts.take (j + 1))) := by
          rw [hst]
          subst h0
          rw [List.take_zero, joinG, atL_nil]
          rfl
        have i2 : ¬ (0 : Int) < (j : Int) := by omega
        have h0' : Hid (j = 0) := h0
        clear h0
        go_wp2_with fail
        refine (hcall K w _ tv' _ (hp.alloc _) (by omega)).mono ?_
        rintro e w2 ⟨rfl, t2, hp2⟩
        rw [he] at hp2
        go_wp2_with fail
        go_roundw
        case rel => exact ⟨j + 1, _, by go_num, by omega, hp2⟩
        case measure => simp [intOf]; omega
      · rw [if_neg h0] at hat
        have hst := joinG_step sg ts j hlt
        rw [if_neg h0] at hst
        have hG := hgd.out j (by omega) hj
        have he1 : atL (atL zs (joinG sg (ts.take j))) (32 :: sg) = atL zs (joinG sg (ts.take j) ++ 32 :: sg) := atL_at zs hG _
        have he : atL (atL zs (joinG sg (ts.take j) ++ 32 :: sg)) ts[j] = atL zs (joinG sg (ts.take (j + 1))) := by rw [hst]; exact atL_at zs (hG.app (Good.cons hsg)) _
        have i2 : (0 : Int) < (j : Int) := by omega
        have hl2 := atL_len zs (joinG sg (ts.take j) ++ 32 :: sg)
        rw [List.length_append, List.length_cons] at hl2
        have HC : Hid (∀ i u, [Value.int .i64 k, .int .i64 n', .int .i64 tk', .int .i64 tn', .slice x0 y0 z0, .slice x1 y1 z1][i]? = some u → ∀ w', KP K wb w' → w'.cell? ⟨wr.heap.size, i, none⟩ = some u) := fun i u hu => hbx.kp (by decide) (by omega) i u hu
        have hbk := hpb.kp
        have hpf := hpb.from
        clear hbx hst hpb
        go_wp2_with fail
        rw [← hwb.out]
        refine (put1 K wb W wb sv tv' _ s (32 :: sg) hsp.out hpf hs1 (by rw [List.length_cons]; omega) _ hsz.out).mono ?_
        rintro e w2 ⟨rfl, t2, hp2⟩
        rw [he1] at hp2
        have c0 := HC.out 0 _ rfl _ hp2.kp
        have c1 := HC.out 1 _ rfl _ hp2.kp
        have c2 := HC.out 2 _ rfl _ hp2.kp
        have c3 := HC.out 3 _ rfl _ hp2.kp
        have c4 := HC.out 4 _ rfl _ hp2.kp
        have c5 := HC.out 5 _ rfl _ hp2.kp
        go_wp2_with fail
        refine (hcall K w _ t2 _ (hp2.back hbk) (by omega)).mono ?_
        rintro e w3 ⟨rfl, t3, hp3⟩
        rw [he] at hp3
        go_wp2_with fail
        go_roundw
        case rel => exact ⟨j + 1, _, by go_num, by omega, hp3⟩
        case measure => simp [intOf]; omega
    · have hje : j = ts.length := by omega
      have i1 : ¬ (j : Int) < (ts.length : Int) := by omega
      rw [hje, List.take_length] at hp
      go_wp2_with fail
      refine bodyPost_end (results_none rfl _ _ _) rfl ?_
      exact HF.out _ _ hp
set_option maxRecDepth 20000 in
set_option maxHeartbeats 4000000 in
theorem within_of (K : Nat) (A W w : World) (sv tv v1 : Value) (zs fi la : List Int) (s0 s1 : ByteArray) (ts : List (List Int)) (h : Pr K A W w sv tv zs) (hks : KidsP W sv v1 ts) (hs0 : bytesOf s0 = fi) (hs1 : bytesOf s1 = la) (hm0 : midB fi = true) (hm1 : midB la = true) (hts : ts.length ≤ 1000) (hb : zs.length + ((32 :: fi) ++ joinL ts ++ (32 :: la)).length ≤ 1000000) :
    Calls Tryz.prog 89 #[.pointer (some ⟨K, 0, none⟩), .string s0, v1, .string s1] w (PrP K A W sv (atL zs ((32 :: fi) ++ joinL ts ++ (32 :: la)))) := by
  have hp0 := h.from
  have hj : ts = [] ∨ Good (joinL ts) := by
    obtain ⟨_, _, _, hg, _⟩ := hks
    cases ts with
    | nil => exact .inl rfl
    | cons x r =>
      have := joinG_good [44] rfl (x :: r) hg (x :: r).length (by simp) (Nat.le_refl _)
      rw [List.take_length, joinG_comma] at this
      exact .inr this
  have hsp0 : spread [bytesOf s0] = 32 :: fi := by rw [hs0]; simp [spread]
  have hsp1 : spread [bytesOf s1] = 32 :: la := by rw [hs1]; simp [spread]
  have hG1 : Good ((32 :: fi) ++ joinL ts) := by
    rcases hj with rfl | hj
    · rw [joinL, List.append_nil]; exact Good.cons hm0
    · exact (Good.cons hm0).app hj
  have he1 : atL (atL zs (32 :: fi)) (joinG [44] ts) = atL zs ((32 :: fi) ++ joinL ts) := by rw [joinG_comma]; exact atL_at zs (Good.cons hm0) _
  have he2 : atL (atL zs ((32 :: fi) ++ joinL ts)) (32 :: la) = atL zs ((32 :: fi) ++ joinL ts ++ (32 :: la)) := atL_at zs hG1 _
  have hl1 := atL_len zs (32 :: fi)
  have hl2 := atL_len zs ((32 :: fi) ++ joinL ts)
  have hjl : (joinG [44] ts).length = (joinL ts).length := by rw [joinG_comma]
  simp only [List.length_append, List.length_cons] at hb hl1 hl2
  have hm0' : midB (bytesOf s0) = true := by rw [hs0]; exact hm0
  have hm1' : midB (bytesOf s1) = true := by rw [hs1]; exact hm1
  obtain ⟨T, hT⟩ : ∃ T, Hid (T = atL zs ((32 :: fi) ++ joinL ts ++ (32 :: la))) := ⟨_, rfl⟩
  have HF : Hid (∀ w' t', Pr K w W w' sv t' T → PrP K A W sv T (.returned (.tuple #[])) w') := fun w' t' hp => ⟨rfl, t', hp.back h.kp⟩
  rw [← hT.out]
  rw [← hT.out] at he2
  clear h hs0 hs1
  go_enter Tryz.func89, Tryz.ntmps89
  go_wp2_with fail
  refine (put1 K w W w sv tv zs s0 (32 :: fi) hsp0 hp0 hm0' (by rw [List.length_cons]; omega) _ rfl).mono ?_
  rintro e w2 ⟨rfl, t2, hp2⟩
  go_wp2_with fail
  refine (exprs_of K w W w2 sv t2 v1 _ [44] ⟨#[44]⟩ ts hp2 hks rfl rfl hts (by omega)).mono ?_
  rintro e w3 ⟨rfl, t3, hp3⟩
  rw [he1] at hp3
  go_wp2_with fail
  refine (put1 K w W w3 sv t3 _ s1 (32 :: la) hsp1 hp3 hm1' (by rw [List.length_cons]; omega) _ rfl).mono ?_
  rintro e w4 ⟨rfl, t4, hp4⟩
  rw [he2] at hp4
  go_wp2_with fail
  refine bodyPost_end (results_none rfl _ _ _) rfl ?_
  exact HF.out _ _ hp4
end Go.Proofs.YtbigjeejmacjcaaGreatDoor
/- The program's printer: expressions, kind by kind. -/
namespace Go.Proofs.YtbigjeejmacjcaaGreatDoor
open Go.RowKit Go.Lib
theorem hid_ex {α : Type} (x : α) : ∃ T, Hid (T = x) := ⟨x, rfl⟩
set_option maxRecDepth 20000 in
set_option maxHeartbeats 4000000 in
theorem expr_11 (K : Nat) (A W w : World) (sv tv : Value) (x0 x1 : Option Addr) (y0 z0 y1 z1 : Nat) (zs : List Int) (n tk tn : Int) (h : Pr K A W w sv tv zs)  (hb : zs.length + ([32, 114, 101, 97, 100]).length ≤ 1000000) :
    Calls Tryz.prog 88 #[.pointer (some ⟨K, 0, none⟩), .agg #[.int .i64 11, .int .i64 n, .int .i64 tk, .int .i64 tn, .slice x0 y0 z0, .slice x1 y1 z1]] w (PrP K A W sv (atL zs ([32, 114, 101, 97, 100]))) := by
  obtain ⟨w1, hw1⟩ : ∃ w1, Hid (w1 = w.alloc (.cells #[.int .i64 11, .int .i64 n, .int .i64 tk, .int .i64 tn, .slice x0 y0 z0, .slice x1 y1 z1] 107)) := ⟨_, rfl⟩
  have hK := lt_of_some h.row
  have hA : Pr K A W w1 sv tv zs := by rw [hw1.out]; exact h.alloc _
  have hbx : BxT w.heap.size w1 [.int .i64 11, .int .i64 n, .int .i64 tk, .int .i64 tn, .slice x0 y0 z0, .slice x1 y1 z1] 107 := by rw [hw1.out]; exact BxT.new w _ _
  have HC : Hid (∀ i u, [Value.int .i64 11, .int .i64 n, .int .i64 tk, .int .i64 tn, .slice x0 y0 z0, .slice x1 y1 z1][i]? = some u → ∀ w', KP K w1 w' → w'.cell? ⟨w.heap.size, i, none⟩ = some u) := fun i u hu => hbx.kp (by decide) (by omega) i u hu
  have hsz : Hid (w.heap.size + 1 = w1.heap.size) := by rw [hw1.out]; show _ = _; simp
  have hA1 := hA.from
  obtain ⟨T, hT⟩ := hid_ex (atL zs ([32, 114, 101, 97, 100]))
  have HF : Hid (∀ w' t', Pr K w1 W w' sv t' T → PrP K A W sv T (.returned (.tuple #[])) w') := fun w' t' hp => ⟨rfl, t', hp.back hA.kp⟩
  rw [← hT.out]
  clear hbx hA
  go_enter Tryz.func88, Tryz.ntmps88
  go_wp2_with fail
  rw [← hw1.out]
  refine (put1 K w1 W w1 sv tv zs ⟨#[114, 101, 97, 100]⟩ [32, 114, 101, 97, 100] rfl hA1 (by decide) hb _ hsz.out).mono ?_
  rintro e wE ⟨rfl, tE, hpE⟩
  rw [← hT.out] at hpE
  go_wp2_with fail
  refine bodyPost_end (results_none rfl _ _ _) rfl ?_
  exact HF.out _ _ hpE
set_option maxRecDepth 20000 in
set_option maxHeartbeats 4000000 in
theorem head_9 (K : Nat) (A W w : World) (sv tv : Value) (x0 x1 : Option Addr) (y0 z0 y1 z1 : Nat) (zs : List Int) (n tk tn : Int) (h : Pr K A W w sv tv zs)  (hb : zs.length + ([32, 108, 101, 110]).length ≤ 1000000) :
    Calls Tryz.prog 108 #[.pointer (some ⟨K, 0, none⟩), .agg #[.int .i64 9, .int .i64 n, .int .i64 tk, .int .i64 tn, .slice x0 y0 z0, .slice x1 y1 z1]] w (PrP K A W sv (atL zs ([32, 108, 101, 110]))) := by
  obtain ⟨w1, hw1⟩ : ∃ w1, Hid (w1 = w.alloc (.cells #[.int .i64 9, .int .i64 n, .int .i64 tk, .int .i64 tn, .slice x0 y0 z0, .slice x1 y1 z1] 107)) := ⟨_, rfl⟩
  have hK := lt_of_some h.row
  have hA : Pr K A W w1 sv tv zs := by rw [hw1.out]; exact h.alloc _
  have hbx : BxT w.heap.size w1 [.int .i64 9, .int .i64 n, .int .i64 tk, .int .i64 tn, .slice x0 y0 z0, .slice x1 y1 z1] 107 := by rw [hw1.out]; exact BxT.new w _ _
  have HC : Hid (∀ i u, [Value.int .i64 9, .int .i64 n, .int .i64 tk, .int .i64 tn, .slice x0 y0 z0, .slice x1 y1 z1][i]? = some u → ∀ w', KP K w1 w' → w'.cell? ⟨w.heap.size, i, none⟩ = some u) := fun i u hu => hbx.kp (by decide) (by omega) i u hu
  have hsz : Hid (w.heap.size + 1 = w1.heap.size) := by rw [hw1.out]; show _ = _; simp
  have hA1 := hA.from
  obtain ⟨T, hT⟩ := hid_ex (atL zs ([32, 108, 101, 110]))
  have HF : Hid (∀ w' t', Pr K w1 W w' sv t' T → PrP K A W sv T (.returned (.tuple #[])) w') := fun w' t' hp => ⟨rfl, t', hp.back hA.kp⟩
  rw [← hT.out]
  clear hbx hA
  go_enter Tryz.func108, Tryz.ntmps108
  go_wp2_with fail
  rw [← hw1.out]
  refine (put1 K w1 W w1 sv tv zs ⟨#[108, 101, 110]⟩ [32, 108, 101, 110] rfl hA1 (by decide) hb _ hsz.out).mono ?_
  rintro e wE ⟨rfl, tE, hpE⟩
  rw [← hT.out] at hpE
  go_wp2_with fail
  refine bodyPost_end (results_none rfl _ _ _) rfl ?_
  exact HF.out _ _ hpE
set_option maxRecDepth 20000 in
set_option maxHeartbeats 4000000 in
theorem head_12 (K : Nat) (A W w : World) (sv tv : Value) (x0 x1 : Option Addr) (y0 z0 y1 z1 : Nat) (zs : List Int) (n tk tn : Int) (h : Pr K A W w sv tv zs)  (hb : zs.length + ([32, 105, 110, 116]).length ≤ 1000000) :
    Calls Tryz.prog 108 #[.pointer (some ⟨K, 0, none⟩), .agg #[.int .i64 12, .int .i64 n, .int .i64 tk, .int .i64 tn, .slice x0 y0 z0, .slice x1 y1 z1]] w (PrP K A W sv (atL zs ([32, 105, 110, 116]))) := by
  obtain ⟨w1, hw1⟩ : ∃ w1, Hid (w1 = w.alloc (.cells #[.int .i64 12, .int .i64 n, .int .i64 tk, .int .i64 tn, .slice x0 y0 z0, .slice x1 y1 z1] 107)) := ⟨_, rfl⟩
  have hK := lt_of_some h.row
  have hA : Pr K A W w1 sv tv zs := by rw [hw1.out]; exact h.alloc _
  have hbx : BxT w.heap.size w1 [.int .i64 12, .int .i64 n, .int .i64 tk, .int .i64 tn, .slice x0 y0 z0, .slice x1 y1 z1] 107 := by rw [hw1.out]; exact BxT.new w _ _
  have HC : Hid (∀ i u, [Value.int .i64 12, .int .i64 n, .int .i64 tk, .int .i64 tn, .slice x0 y0 z0, .slice x1 y1 z1][i]? = some u → ∀ w', KP K w1 w' → w'.cell? ⟨w.heap.size, i, none⟩ = some u) := fun i u hu => hbx.kp (by decide) (by omega) i u hu
  have hsz : Hid (w.heap.size + 1 = w1.heap.size) := by rw [hw1.out]; show _ = _; simp
  have hA1 := hA.from
  obtain ⟨T, hT⟩ := hid_ex (atL zs ([32, 105, 110, 116]))
  have HF : Hid (∀ w' t', Pr K w1 W w' sv t' T → PrP K A W sv T (.returned (.tuple #[])) w') := fun w' t' hp => ⟨rfl, t', hp.back hA.kp⟩
  rw [← hT.out]
  clear hbx hA
  go_enter Tryz.func108, Tryz.ntmps108
  go_wp2_with fail
  rw [← hw1.out]
  refine (put1 K w1 W w1 sv tv zs ⟨#[105, 110, 116]⟩ [32, 105, 110, 116] rfl hA1 (by decide) hb _ hsz.out).mono ?_
  rintro e wE ⟨rfl, tE, hpE⟩
  rw [← hT.out] at hpE
  go_wp2_with fail
  refine bodyPost_end (results_none rfl _ _ _) rfl ?_
  exact HF.out _ _ hpE
set_option maxRecDepth 20000 in
set_option maxHeartbeats 4000000 in
theorem head_13 (K : Nat) (A W w : World) (sv tv : Value) (x0 x1 : Option Addr) (y0 z0 y1 z1 : Nat) (zs : List Int) (n tk tn : Int) (h : Pr K A W w sv tv zs)  (hb : zs.length + ([32, 102, 108, 111, 97, 116]).length ≤ 1000000) :
    Calls Tryz.prog 108 #[.pointer (some ⟨K, 0, none⟩), .agg #[.int .i64 13, .int .i64 n, .int .i64 tk, .int .i64 tn, .slice x0 y0 z0, .slice x1 y1 z1]] w (PrP K A W sv (atL zs ([32, 102, 108, 111, 97, 116]))) := by
  obtain ⟨w1, hw1⟩ : ∃ w1, Hid (w1 = w.alloc (.cells #[.int .i64 13, .int .i64 n, .int .i64 tk, .int .i64 tn, .slice x0 y0 z0, .slice x1 y1 z1] 107)) := ⟨_, rfl⟩
  have hK := lt_of_some h.row
  have hA : Pr K A W w1 sv tv zs := by rw [hw1.out]; exact h.alloc _
  have hbx : BxT w.heap.size w1 [.int .i64 13, .int .i64 n, .int .i64 tk, .int .i64 tn, .slice x0 y0 z0, .slice x1 y1 z1] 107 := by rw [hw1.out]; exact BxT.new w _ _
  have HC : Hid (∀ i u, [Value.int .i64 13, .int .i64 n, .int .i64 tk, .int .i64 tn, .slice x0 y0 z0, .slice x1 y1 z1][i]? = some u → ∀ w', KP K w1 w' → w'.cell? ⟨w.heap.size, i, none⟩ = some u) := fun i u hu => hbx.kp (by decide) (by omega) i u hu
  have hsz : Hid (w.heap.size + 1 = w1.heap.size) := by rw [hw1.out]; show _ = _; simp
  have hA1 := hA.from
  obtain ⟨T, hT⟩ := hid_ex (atL zs ([32, 102, 108, 111, 97, 116]))
  have HF : Hid (∀ w' t', Pr K w1 W w' sv t' T → PrP K A W sv T (.returned (.tuple #[])) w') := fun w' t' hp => ⟨rfl, t', hp.back hA.kp⟩
  rw [← hT.out]
  clear hbx hA
  go_enter Tryz.func108, Tryz.ntmps108
  go_wp2_with fail
  rw [← hw1.out]
  refine (put1 K w1 W w1 sv tv zs ⟨#[102, 108, 111, 97, 116]⟩ [32, 102, 108, 111, 97, 116] rfl hA1 (by decide) hb _ hsz.out).mono ?_
  rintro e wE ⟨rfl, tE, hpE⟩
  rw [← hT.out] at hpE
  go_wp2_with fail
  refine bodyPost_end (results_none rfl _ _ _) rfl ?_
  exact HF.out _ _ hpE
set_option maxRecDepth 20000 in
set_option maxHeartbeats 4000000 in
theorem expr_2 (K : Nat) (A W w : World) (sv tv : Value) (x0 x1 : Option Addr) (y0 z0 y1 z1 : Nat) (zs : List Int) (n tk tn : Int) (h : Pr K A W w sv tv zs) (l : List Sc) (hl : RdL W 2 sv (Sc.dats l)) (h0 : 0 ≤ n) (h1 : n < l.length) (hnm : 1 ≤ (nmAt l n).length ∧ midB (nmAt l n) = true) (hb : zs.length + ([32, 110, 105, 108, 32] ++ nmAt l n).length ≤ 1000000) :
    Calls Tryz.prog 88 #[.pointer (some ⟨K, 0, none⟩), .agg #[.int .i64 2, .int .i64 n, .int .i64 tk, .int .i64 tn, .slice x0 y0 z0, .slice x1 y1 z1]] w (PrP K A W sv (atL zs ([32, 110, 105, 108, 32] ++ nmAt l n))) := by
  obtain ⟨w1, hw1⟩ : ∃ w1, Hid (w1 = w.alloc (.cells #[.int .i64 2, .int .i64 n, .int .i64 tk, .int .i64 tn, .slice x0 y0 z0, .slice x1 y1 z1] 107)) := ⟨_, rfl⟩
  have hK := lt_of_some h.row
  have hA : Pr K A W w1 sv tv zs := by rw [hw1.out]; exact h.alloc _
  have hbx : BxT w.heap.size w1 [.int .i64 2, .int .i64 n, .int .i64 tk, .int .i64 tn, .slice x0 y0 z0, .slice x1 y1 z1] 107 := by rw [hw1.out]; exact BxT.new w _ _
  have HC : Hid (∀ i u, [Value.int .i64 2, .int .i64 n, .int .i64 tk, .int .i64 tn, .slice x0 y0 z0, .slice x1 y1 z1][i]? = some u → ∀ w', KP K w1 w' → w'.cell? ⟨w.heap.size, i, none⟩ = some u) := fun i u hu => hbx.kp (by decide) (by omega) i u hu
  have hsz : Hid (w.heap.size + 1 = w1.heap.size) := by rw [hw1.out]; show _ = _; simp
  have hA1 := hA.from
  obtain ⟨T, hT⟩ := hid_ex (atL zs ([32, 110, 105, 108, 32] ++ nmAt l n))
  have HF : Hid (∀ w' t', Pr K w1 W w' sv t' T → PrP K A W sv T (.returned (.tuple #[])) w') := fun w' t' hp => ⟨rfl, t', hp.back hA.kp⟩
  rw [← hT.out]
  clear hbx hA
  go_enter Tryz.func88, Tryz.ntmps88
  go_wp2_with fail
  rw [← hw1.out]
  refine (structName_any K w1 W w1 sv tv zs l n hA1 hl h0 h1 hnm.1).mono ?_
  rintro e w2 ⟨s, rfl, hs, hw⟩
  obtain rfl := hw
  have hs1 : midB (bytesOf s) = true := by rw [hs]; exact hnm.2
  go_wp2_with fail
  refine (put2 K w2 W w2 sv tv zs ⟨#[110, 105, 108]⟩ s ([32, 110, 105, 108, 32] ++ nmAt l n) (by rw [hs]; simp [spread, bytesOf]) hA1 (by decide) hs1 hb _ rfl).mono ?_
  rintro e wE ⟨rfl, tE, hpE⟩
  rw [← hT.out] at hpE
  go_wp2_with fail
  refine bodyPost_end (results_none rfl _ _ _) rfl ?_
  exact HF.out _ _ hpE
set_option maxRecDepth 20000 in
set_option maxHeartbeats 4000000 in
theorem expr_4 (K : Nat) (A W w : World) (sv tv : Value) (x0 x1 : Option Addr) (y0 z0 y1 z1 : Nat) (zs : List Int) (n tk tn : Int) (h : Pr K A W w sv tv zs) (l : List Sc) (hl : RdL W 2 sv (Sc.dats l)) (h0 : 0 ≤ n) (h1 : n < l.length) (hnm : 1 ≤ (nmAt l n).length ∧ midB (nmAt l n) = true) (hb : zs.length + ([32, 110, 101, 119, 32] ++ nmAt l n).length ≤ 1000000) :
    Calls Tryz.prog 88 #[.pointer (some ⟨K, 0, none⟩), .agg #[.int .i64 4, .int .i64 n, .int .i64 tk, .int .i64 tn, .slice x0 y0 z0, .slice x1 y1 z1]] w (PrP K A W sv (atL zs ([32, 110, 101, 119, 32] ++ nmAt l n))) := by
  obtain ⟨w1, hw1⟩ : ∃ w1, Hid (w1 = w.alloc (.cells #[.int .i64 4, .int .i64 n, .int .i64 tk, .int .i64 tn, .slice x0 y0 z0, .slice x1 y1 z1] 107)) := ⟨_, rfl⟩
  have hK := lt_of_some h.row
  have hA : Pr K A W w1 sv tv zs := by rw [hw1.out]; exact h.alloc _
  have hbx : BxT w.heap.size w1 [.int .i64 4, .int .i64 n, .int .i64 tk, .int .i64 tn, .slice x0 y0 z0, .slice x1 y1 z1] 107 := by rw [hw1.out]; exact BxT.new w _ _
  have HC : Hid (∀ i u, [Value.int .i64 4, .int .i64 n, .int .i64 tk, .int .i64 tn, .slice x0 y0 z0, .slice x1 y1 z1][i]? = some u → ∀ w', KP K w1 w' → w'.cell? ⟨w.heap.size, i, none⟩ = some u) := fun i u hu => hbx.kp (by decide) (by omega) i u hu
  have hsz : Hid (w.heap.size + 1 = w1.heap.size) := by rw [hw1.out]; show _ = _; simp
  have hA1 := hA.from
  obtain ⟨T, hT⟩ := hid_ex (atL zs ([32, 110, 101, 119, 32] ++ nmAt l n))
  have HF : Hid (∀ w' t', Pr K w1 W w' sv t' T → PrP K A W sv T (.returned (.tuple #[])) w') := fun w' t' hp => ⟨rfl, t', hp.back hA.kp⟩
  rw [← hT.out]
  clear hbx hA
  go_enter Tryz.func88, Tryz.ntmps88
  go_wp2_with fail
  rw [← hw1.out]
  refine (structName_any K w1 W w1 sv tv zs l n hA1 hl h0 h1 hnm.1).mono ?_
  rintro e w2 ⟨s, rfl, hs, hw⟩
  obtain rfl := hw
  have hs1 : midB (bytesOf s) = true := by rw [hs]; exact hnm.2
  go_wp2_with fail
  refine (put2 K w2 W w2 sv tv zs ⟨#[110, 101, 119]⟩ s ([32, 110, 101, 119, 32] ++ nmAt l n) (by rw [hs]; simp [spread, bytesOf]) hA1 (by decide) hs1 hb _ rfl).mono ?_
  rintro e wE ⟨rfl, tE, hpE⟩
  rw [← hT.out] at hpE
  go_wp2_with fail
  refine bodyPost_end (results_none rfl _ _ _) rfl ?_
  exact HF.out _ _ hpE
set_option maxRecDepth 20000 in
set_option maxHeartbeats 4000000 in
theorem expr_3 (K : Nat) (A W w : World) (sv tv : Value) (v0 : Value) (x1 : Option Addr) (y1 z1 : Nat) (zs : List Int) (n tk tn : Int) (h : Pr K A W w sv tv zs) (nm : List Int) (hv0 : RdN W v0 nm) (hm : midB nm = true) (hn1 : 1 ≤ nm.length) (hb : zs.length + (32 :: nm).length ≤ 1000000) :
    Calls Tryz.prog 88 #[.pointer (some ⟨K, 0, none⟩), .agg #[.int .i64 3, .int .i64 n, .int .i64 tk, .int .i64 tn, v0, .slice x1 y1 z1]] w (PrP K A W sv (atL zs (32 :: nm))) := by
  obtain ⟨s, g0, off0, q, rfl, hg0, hs, hcv⟩ := nm_string hv0 hn1
  have hs1 : midB (bytesOf s) = true := by rw [hs]; exact hm
  obtain ⟨w1, hw1⟩ : ∃ w1, Hid (w1 = w.alloc (.cells #[.int .i64 3, .int .i64 n, .int .i64 tk, .int .i64 tn, .slice (some ⟨g0, off0, none⟩) nm.length q, .slice x1 y1 z1] 107)) := ⟨_, rfl⟩
  have hK := lt_of_some h.row
  have hA : Pr K A W w1 sv tv zs := by rw [hw1.out]; exact h.alloc _
  have hbx : BxT w.heap.size w1 [.int .i64 3, .int .i64 n, .int .i64 tk, .int .i64 tn, .slice (some ⟨g0, off0, none⟩) nm.length q, .slice x1 y1 z1] 107 := by rw [hw1.out]; exact BxT.new w _ _
  have HC : Hid (∀ i u, [Value.int .i64 3, .int .i64 n, .int .i64 tk, .int .i64 tn, .slice (some ⟨g0, off0, none⟩) nm.length q, .slice x1 y1 z1][i]? = some u → ∀ w', KP K w1 w' → w'.cell? ⟨w.heap.size, i, none⟩ = some u) := fun i u hu => hbx.kp (by decide) (by omega) i u hu
  have hsz : Hid (w.heap.size + 1 = w1.heap.size) := by rw [hw1.out]; show _ = _; simp
  have hA1 := hA.from
  obtain ⟨T, hT⟩ := hid_ex (atL zs (32 :: nm))
  have HF : Hid (∀ w' t', Pr K w1 W w' sv t' T → PrP K A W sv T (.returned (.tuple #[])) w') := fun w' t' hp => ⟨rfl, t', hp.back hA.kp⟩
  rw [← hT.out]
  have cv := hcv w1 hA.lat
  rw [hw1.out] at cv
  clear hcv
  clear hbx hA
  go_enter Tryz.func88, Tryz.ntmps88
  go_wp2_with fail
  rw [← hw1.out]
  refine (put1 K w1 W w1 sv tv zs s (32 :: nm) (by rw [hs]; simp [spread]) hA1 hs1 hb _ hsz.out).mono ?_
  rintro e wE ⟨rfl, tE, hpE⟩
  rw [← hT.out] at hpE
  go_wp2_with fail
  refine bodyPost_end (results_none rfl _ _ _) rfl ?_
  exact HF.out _ _ hpE
set_option maxRecDepth 20000 in
set_option maxHeartbeats 4000000 in
theorem head_6 (K : Nat) (A W w : World) (sv tv : Value) (v0 : Value) (x1 : Option Addr) (y1 z1 : Nat) (zs : List Int) (n tk tn : Int) (h : Pr K A W w sv tv zs) (nm : List Int) (hv0 : RdN W v0 nm) (hm : midB nm = true) (hn1 : 1 ≤ nm.length) (hb : zs.length + (32 :: nm).length ≤ 1000000) :
    Calls Tryz.prog 108 #[.pointer (some ⟨K, 0, none⟩), .agg #[.int .i64 6, .int .i64 n, .int .i64 tk, .int .i64 tn, v0, .slice x1 y1 z1]] w (PrP K A W sv (atL zs (32 :: nm))) := by
  obtain ⟨s, g0, off0, q, rfl, hg0, hs, hcv⟩ := nm_string hv0 hn1
  have hs1 : midB (bytesOf s) = true := by rw [hs]; exact hm
  obtain ⟨w1, hw1⟩ : ∃ w1, Hid (w1 = w.alloc (.cells #[.int .i64 6, .int .i64 n, .int .i64 tk, .int .i64 tn, .slice (some ⟨g0, off0, none⟩) nm.length q, .slice x1 y1 z1] 107)) := ⟨_, rfl⟩
  have hK := lt_of_some h.row
  have hA : Pr K A W w1 sv tv zs := by rw [hw1.out]; exact h.alloc _
  have hbx : BxT w.heap.size w1 [.int .i64 6, .int .i64 n, .int .i64 tk, .int .i64 tn, .slice (some ⟨g0, off0, none⟩) nm.length q, .slice x1 y1 z1] 107 := by rw [hw1.out]; exact BxT.new w _ _
  have HC : Hid (∀ i u, [Value.int .i64 6, .int .i64 n, .int .i64 tk, .int .i64 tn, .slice (some ⟨g0, off0, none⟩) nm.length q, .slice x1 y1 z1][i]? = some u → ∀ w', KP K w1 w' → w'.cell? ⟨w.heap.size, i, none⟩ = some u) := fun i u hu => hbx.kp (by decide) (by omega) i u hu
  have hsz : Hid (w.heap.size + 1 = w1.heap.size) := by rw [hw1.out]; show _ = _; simp
  have hA1 := hA.from
  obtain ⟨T, hT⟩ := hid_ex (atL zs (32 :: nm))
  have HF : Hid (∀ w' t', Pr K w1 W w' sv t' T → PrP K A W sv T (.returned (.tuple #[])) w') := fun w' t' hp => ⟨rfl, t', hp.back hA.kp⟩
  rw [← hT.out]
  have cv := hcv w1 hA.lat
  rw [hw1.out] at cv
  clear hcv
  clear hbx hA
  go_enter Tryz.func108, Tryz.ntmps108
  go_wp2_with fail
  rw [← hw1.out]
  refine (put1 K w1 W w1 sv tv zs s (32 :: nm) (by rw [hs]; simp [spread]) hA1 hs1 hb _ hsz.out).mono ?_
  rintro e wE ⟨rfl, tE, hpE⟩
  rw [← hT.out] at hpE
  go_wp2_with fail
  refine bodyPost_end (results_none rfl _ _ _) rfl ?_
  exact HF.out _ _ hpE
set_option maxRecDepth 20000 in
set_option maxHeartbeats 4000000 in
theorem head_5 (K : Nat) (A W w : World) (sv tv : Value) (x0 x1 : Option Addr) (y0 z0 y1 z1 : Nat) (zs : List Int) (n tk tn : Int) (h : Pr K A W w sv tv zs) (l : List Sc) (hl : RdL W 2 sv (Sc.dats l)) (hnm : NamesTok l) (ht : TyFine l tk tn) (hb : zs.length + ([32, 109, 97, 107, 101] ++ sayTy l tk tn).length ≤ 1000000) :
    Calls Tryz.prog 108 #[.pointer (some ⟨K, 0, none⟩), .agg #[.int .i64 5, .int .i64 n, .int .i64 tk, .int .i64 tn, .slice x0 y0 z0, .slice x1 y1 z1]] w (PrP K A W sv (atL zs ([32, 109, 97, 107, 101] ++ sayTy l tk tn))) := by
  obtain ⟨w1, hw1⟩ : ∃ w1, Hid (w1 = w.alloc (.cells #[.int .i64 5, .int .i64 n, .int .i64 tk, .int .i64 tn, .slice x0 y0 z0, .slice x1 y1 z1] 107)) := ⟨_, rfl⟩
  have hK := lt_of_some h.row
  have hA : Pr K A W w1 sv tv zs := by rw [hw1.out]; exact h.alloc _
  have hbx : BxT w.heap.size w1 [.int .i64 5, .int .i64 n, .int .i64 tk, .int .i64 tn, .slice x0 y0 z0, .slice x1 y1 z1] 107 := by rw [hw1.out]; exact BxT.new w _ _
  have HC : Hid (∀ i u, [Value.int .i64 5, .int .i64 n, .int .i64 tk, .int .i64 tn, .slice x0 y0 z0, .slice x1 y1 z1][i]? = some u → ∀ w', KP K w1 w' → w'.cell? ⟨w.heap.size, i, none⟩ = some u) := fun i u hu => hbx.kp (by decide) (by omega) i u hu
  have hsz : Hid (w.heap.size + 1 = w1.heap.size) := by rw [hw1.out]; show _ = _; simp
  have hA1 := hA.from
  obtain ⟨T, hT⟩ := hid_ex (atL zs ([32, 109, 97, 107, 101] ++ sayTy l tk tn))
  have HF : Hid (∀ w' t', Pr K w1 W w' sv t' T → PrP K A W sv T (.returned (.tuple #[])) w') := fun w' t' hp => ⟨rfl, t', hp.back hA.kp⟩
  rw [← hT.out]
  have hl1 := atL_len zs [32, 109, 97, 107, 101]
  rw [List.length_append] at hb
  have hat : atL (atL zs [32, 109, 97, 107, 101]) (sayTy l tk tn) = T := by rw [hT.out]; exact atL_at zs ⟨by decide, by decide⟩ _
  have hbm : ([32, 109, 97, 107, 101] : List Int).length = 5 := rfl
  clear hbx hA
  go_enter Tryz.func108, Tryz.ntmps108
  go_wp2_with fail
  rw [← hw1.out]
  refine (put1 K w1 W w1 sv tv zs ⟨#[109, 97, 107, 101]⟩ [32, 109, 97, 107, 101] rfl hA1 (by decide) (by omega) _ hsz.out).mono ?_
  rintro e w2 ⟨rfl, t2, hp2⟩
  have q1 := HC.out 2 _ rfl _ hp2.kp
  have q2 := HC.out 3 _ rfl _ hp2.kp
  go_wp2_with fail
  refine (pty_any K w1 W w2 sv t2 _ l tk tn hp2 hl hnm ht (by omega)).mono ?_
  rintro e wE ⟨rfl, tE, hpE⟩
  rw [hat] at hpE
  go_wp2_with fail
  refine bodyPost_end (results_none rfl _ _ _) rfl ?_
  exact HF.out _ _ hpE
set_option maxRecDepth 20000 in
set_option maxHeartbeats 4000000 in
theorem expr_5 (K : Nat) (A W w : World) (sv tv : Value) (x0 x1 : Option Addr) (y0 z0 y1 z1 : Nat) (zs : List Int) (n tk tn : Int) (h : Pr K A W w sv tv zs) (l : List Sc) (hl : RdL W 2 sv (Sc.dats l)) (hnm : NamesTok l) (ht : TyFine l tk tn) (ts : List (List Int)) (hks : KidsP W sv (.slice x1 y1 z1) ts) (hts : ts.length ≤ 1000) (hb : zs.length + (([32, 109, 97, 107, 101] ++ sayTy l tk tn) ++ ((32 :: [40]) ++ joinL ts ++ (32 :: [41]))).length ≤ 1000000) :
    Calls Tryz.prog 88 #[.pointer (some ⟨K, 0, none⟩), .agg #[.int .i64 5, .int .i64 n, .int .i64 tk, .int .i64 tn, .slice x0 y0 z0, .slice x1 y1 z1]] w (PrP K A W sv (atL zs (([32, 109, 97, 107, 101] ++ sayTy l tk tn) ++ ((32 :: [40]) ++ joinL ts ++ (32 :: [41]))))) := by
  have hG : Good ([32, 109, 97, 107, 101] ++ sayTy l tk tn) := by
    rcases ty_good hnm ht with e | e
    · rw [e]; exact ⟨by simp, rfl⟩
    · exact Good.app ⟨by decide, by decide⟩ e
  obtain ⟨w1, hw1⟩ : ∃ w1, Hid (w1 = w.alloc (.cells #[.int .i64 5, .int .i64 n, .int .i64 tk, .int .i64 tn, .slice x0 y0 z0, .slice x1 y1 z1] 107)) := ⟨_, rfl⟩
  have hK := lt_of_some h.row
  have hA : Pr K A W w1 sv tv zs := by rw [hw1.out]; exact h.alloc _
  have hbx : BxT w.heap.size w1 [.int .i64 5, .int .i64 n, .int .i64 tk, .int .i64 tn, .slice x0 y0 z0, .slice x1 y1 z1] 107 := by rw [hw1.out]; exact BxT.new w _ _
  have HC : Hid (∀ i u, [Value.int .i64 5, .int .i64 n, .int .i64 tk, .int .i64 tn, .slice x0 y0 z0, .slice x1 y1 z1][i]? = some u → ∀ w', KP K w1 w' → w'.cell? ⟨w.heap.size, i, none⟩ = some u) := fun i u hu => hbx.kp (by decide) (by omega) i u hu
  have hsz : Hid (w.heap.size + 1 = w1.heap.size) := by rw [hw1.out]; show _ = _; simp
  have hA1 := hA.from
  obtain ⟨T, hT⟩ := hid_ex (atL zs (([32, 109, 97, 107, 101] ++ sayTy l tk tn) ++ ((32 :: [40]) ++ joinL ts ++ (32 :: [41]))))
  have HF : Hid (∀ w' t', Pr K w1 W w' sv t' T → PrP K A W sv T (.returned (.tuple #[])) w') := fun w' t' hp => ⟨rfl, t', hp.back hA.kp⟩
  rw [← hT.out]
  have hl1 := atL_len zs ([32, 109, 97, 107, 101] ++ sayTy l tk tn)
  rw [List.length_append] at hb
  have hat : atL (atL zs ([32, 109, 97, 107, 101] ++ sayTy l tk tn)) ((32 :: [40]) ++ joinL ts ++ (32 :: [41])) = T := by rw [hT.out]; exact atL_at zs hG _
  have qq0 := HC.out 0 _ rfl _ hA.from.kp
  clear hbx hA
  go_enter Tryz.func88, Tryz.ntmps88
  go_wp2_with fail
  rw [← hw1.out]
  refine (head_5 K w1 W w1 sv tv x0 x1 y0 z0 y1 z1 zs n tk tn hA1 l hl hnm ht (by omega)).mono ?_
  rintro e w2 ⟨rfl, t2, hp2⟩
  have q5 := HC.out 5 _ rfl _ hp2.kp
  go_wp2_with fail
  refine (within_of K w1 W w2 sv t2 _ _ [40] [41] ⟨#[40]⟩ ⟨#[41]⟩ ts hp2 hks rfl rfl rfl rfl hts (by omega)).mono ?_
  rintro e wE ⟨rfl, tE, hpE⟩
  rw [hat] at hpE
  go_wp2_with fail
  refine bodyPost_end (results_none rfl _ _ _) rfl ?_
  exact HF.out _ _ hpE
set_option maxRecDepth 20000 in
set_option maxHeartbeats 4000000 in
theorem expr_6 (K : Nat) (A W w : World) (sv tv : Value) (v0 : Value) (x1 : Option Addr) (y1 z1 : Nat) (zs : List Int) (n tk tn : Int) (h : Pr K A W w sv tv zs) (nm : List Int) (hv0 : RdN W v0 nm) (hm : midB nm = true) (hn1 : 1 ≤ nm.length) (ts : List (List Int)) (hks : KidsP W sv (.slice x1 y1 z1) ts) (hts : ts.length ≤ 1000) (hb : zs.length + ((32 :: nm) ++ ((32 :: [40]) ++ joinL ts ++ (32 :: [41]))).length ≤ 1000000) :
    Calls Tryz.prog 88 #[.pointer (some ⟨K, 0, none⟩), .agg #[.int .i64 6, .int .i64 n, .int .i64 tk, .int .i64 tn, v0, .slice x1 y1 z1]] w (PrP K A W sv (atL zs ((32 :: nm) ++ ((32 :: [40]) ++ joinL ts ++ (32 :: [41]))))) := by
  obtain ⟨b0, q0, rfl, hbl⟩ := hv0.slice
  have hG : Good (32 :: nm) := Good.cons hm
  obtain ⟨w1, hw1⟩ : ∃ w1, Hid (w1 = w.alloc (.cells #[.int .i64 6, .int .i64 n, .int .i64 tk, .int .i64 tn, .slice b0 nm.length q0, .slice x1 y1 z1] 107)) := ⟨_, rfl⟩
  have hK := lt_of_some h.row
  have hA : Pr K A W w1 sv tv zs := by rw [hw1.out]; exact h.alloc _
  have hbx : BxT w.heap.size w1 [.int .i64 6, .int .i64 n, .int .i64 tk, .int .i64 tn, .slice b0 nm.length q0, .slice x1 y1 z1] 107 := by rw [hw1.out]; exact BxT.new w _ _
  have HC : Hid (∀ i u, [Value.int .i64 6, .int .i64 n, .int .i64 tk, .int .i64 tn, .slice b0 nm.length q0, .slice x1 y1 z1][i]? = some u → ∀ w', KP K w1 w' → w'.cell? ⟨w.heap.size, i, none⟩ = some u) := fun i u hu => hbx.kp (by decide) (by omega) i u hu
  have hsz : Hid (w.heap.size + 1 = w1.heap.size) := by rw [hw1.out]; show _ = _; simp
  have hA1 := hA.from
  obtain ⟨T, hT⟩ := hid_ex (atL zs ((32 :: nm) ++ ((32 :: [40]) ++ joinL ts ++ (32 :: [41]))))
  have HF : Hid (∀ w' t', Pr K w1 W w' sv t' T → PrP K A W sv T (.returned (.tuple #[])) w') := fun w' t' hp => ⟨rfl, t', hp.back hA.kp⟩
  rw [← hT.out]
  have hl1 := atL_len zs (32 :: nm)
  rw [List.length_append] at hb
  have hat : atL (atL zs (32 :: nm)) ((32 :: [40]) ++ joinL ts ++ (32 :: [41])) = T := by rw [hT.out]; exact atL_at zs hG _
  have qq0 := HC.out 0 _ rfl _ hA.from.kp
  clear hbx hA
  go_enter Tryz.func88, Tryz.ntmps88
  go_wp2_with fail
  rw [← hw1.out]
  refine (head_6 K w1 W w1 sv tv (.slice b0 nm.length q0) x1 y1 z1 zs n tk tn hA1 nm hv0 hm hn1 (by omega)).mono ?_
  rintro e w2 ⟨rfl, t2, hp2⟩
  have q5 := HC.out 5 _ rfl _ hp2.kp
  go_wp2_with fail
  refine (within_of K w1 W w2 sv t2 _ _ [40] [41] ⟨#[40]⟩ ⟨#[41]⟩ ts hp2 hks rfl rfl rfl rfl hts (by omega)).mono ?_
  rintro e wE ⟨rfl, tE, hpE⟩
  rw [hat] at hpE
  go_wp2_with fail
  refine bodyPost_end (results_none rfl _ _ _) rfl ?_
  exact HF.out _ _ hpE
set_option maxRecDepth 20000 in
set_option maxHeartbeats 4000000 in
theorem expr_9 (K : Nat) (A W w : World) (sv tv : Value) (x0 x1 : Option Addr) (y0 z0 y1 z1 : Nat) (zs : List Int) (n tk tn : Int) (h : Pr K A W w sv tv zs)  (ts : List (List Int)) (hks : KidsP W sv (.slice x1 y1 z1) ts) (hts : ts.length ≤ 1000) (hb : zs.length + (([32, 108, 101, 110]) ++ ((32 :: [40]) ++ joinL ts ++ (32 :: [41]))).length ≤ 1000000) :
    Calls Tryz.prog 88 #[.pointer (some ⟨K, 0, none⟩), .agg #[.int .i64 9, .int .i64 n, .int .i64 tk, .int .i64 tn, .slice x0 y0 z0, .slice x1 y1 z1]] w (PrP K A W sv (atL zs (([32, 108, 101, 110]) ++ ((32 :: [40]) ++ joinL ts ++ (32 :: [41]))))) := by
  have hG : Good ([32, 108, 101, 110]) := ⟨by decide, by decide⟩
  obtain ⟨w1, hw1⟩ : ∃ w1, Hid (w1 = w.alloc (.cells #[.int .i64 9, .int .i64 n, .int .i64 tk, .int .i64 tn, .slice x0 y0 z0, .slice x1 y1 z1] 107)) := ⟨_, rfl⟩
  have hK := lt_of_some h.row
  have hA : Pr K A W w1 sv tv zs := by rw [hw1.out]; exact h.alloc _
  have hbx : BxT w.heap.size w1 [.int .i64 9, .int .i64 n, .int .i64 tk, .int .i64 tn, .slice x0 y0 z0, .slice x1 y1 z1] 107 := by rw [hw1.out]; exact BxT.new w _ _
  have HC : Hid (∀ i u, [Value.int .i64 9, .int .i64 n, .int .i64 tk, .int .i64 tn, .slice x0 y0 z0, .slice x1 y1 z1][i]? = some u → ∀ w', KP K w1 w' → w'.cell? ⟨w.heap.size, i, none⟩ = some u) := fun i u hu => hbx.kp (by decide) (by omega) i u hu
  have hsz : Hid (w.heap.size + 1 = w1.heap.size) := by rw [hw1.out]; show _ = _; simp
  have hA1 := hA.from
  obtain ⟨T, hT⟩ := hid_ex (atL zs (([32, 108, 101, 110]) ++ ((32 :: [40]) ++ joinL ts ++ (32 :: [41]))))
  have HF : Hid (∀ w' t', Pr K w1 W w' sv t' T → PrP K A W sv T (.returned (.tuple #[])) w') := fun w' t' hp => ⟨rfl, t', hp.back hA.kp⟩
  rw [← hT.out]
  have hl1 := atL_len zs ([32, 108, 101, 110])
  rw [List.length_append] at hb
  have hat : atL (atL zs ([32, 108, 101, 110])) ((32 :: [40]) ++ joinL ts ++ (32 :: [41])) = T := by rw [hT.out]; exact atL_at zs hG _
  have qq0 := HC.out 0 _ rfl _ hA.from.kp
  clear hbx hA
  go_enter Tryz.func88, Tryz.ntmps88
  go_wp2_with fail
  rw [← hw1.out]
  refine (head_9 K w1 W w1 sv tv x0 x1 y0 z0 y1 z1 zs n tk tn hA1 (by omega)).mono ?_
  rintro e w2 ⟨rfl, t2, hp2⟩
  have q5 := HC.out 5 _ rfl _ hp2.kp
  go_wp2_with fail
  refine (within_of K w1 W w2 sv t2 _ _ [40] [41] ⟨#[40]⟩ ⟨#[41]⟩ ts hp2 hks rfl rfl rfl rfl hts (by omega)).mono ?_
  rintro e wE ⟨rfl, tE, hpE⟩
  rw [hat] at hpE
  go_wp2_with fail
  refine bodyPost_end (results_none rfl _ _ _) rfl ?_
  exact HF.out _ _ hpE
set_option maxRecDepth 20000 in
set_option maxHeartbeats 4000000 in
theorem expr_12 (K : Nat) (A W w : World) (sv tv : Value) (x0 x1 : Option Addr) (y0 z0 y1 z1 : Nat) (zs : List Int) (n tk tn : Int) (h : Pr K A W w sv tv zs)  (ts : List (List Int)) (hks : KidsP W sv (.slice x1 y1 z1) ts) (hts : ts.length ≤ 1000) (hb : zs.length + (([32, 105, 110, 116]) ++ ((32 :: [40]) ++ joinL ts ++ (32 :: [41]))).length ≤ 1000000) :
    Calls Tryz.prog 88 #[.pointer (some ⟨K, 0, none⟩), .agg #[.int .i64 12, .int .i64 n, .int .i64 tk, .int .i64 tn, .slice x0 y0 z0, .slice x1 y1 z1]] w (PrP K A W sv (atL zs (([32, 105, 110, 116]) ++ ((32 :: [40]) ++ joinL ts ++ (32 :: [41]))))) := by
  have hG : Good ([32, 105, 110, 116]) := ⟨by decide, by decide⟩
  obtain ⟨w1, hw1⟩ : ∃ w1, Hid (w1 = w.alloc (.cells #[.int .i64 12, .int .i64 n, .int .i64 tk, .int .i64 tn, .slice x0 y0 z0, .slice x1 y1 z1] 107)) := ⟨_, rfl⟩
  have hK := lt_of_some h.row
  have hA : Pr K A W w1 sv tv zs := by rw [hw1.out]; exact h.alloc _
  have hbx : BxT w.heap.size w1 [.int .i64 12, .int .i64 n, .int .i64 tk, .int .i64 tn, .slice x0 y0 z0, .slice x1 y1 z1] 107 := by rw [hw1.out]; exact BxT.new w _ _
  have HC : Hid (∀ i u, [Value.int .i64 12, .int .i64 n, .int .i64 tk, .int .i64 tn, .slice x0 y0 z0, .slice x1 y1 z1][i]? = some u → ∀ w', KP K w1 w' → w'.cell? ⟨w.heap.size, i, none⟩ = some u) := fun i u hu => hbx.kp (by decide) (by omega) i u hu
  have hsz : Hid (w.heap.size + 1 = w1.heap.size) := by rw [hw1.out]; show _ = _; simp
  have hA1 := hA.from
  obtain ⟨T, hT⟩ := hid_ex (atL zs (([32, 105, 110, 116]) ++ ((32 :: [40]) ++ joinL ts ++ (32 :: [41]))))
  have HF : Hid (∀ w' t', Pr K w1 W w' sv t' T → PrP K A W sv T (.returned (.tuple #[])) w') := fun w' t' hp => ⟨rfl, t', hp.back hA.kp⟩
  rw [← hT.out]
  have hl1 := atL_len zs ([32, 105, 110, 116])
  rw [List.length_append] at hb
  have hat : atL (atL zs ([32, 105, 110, 116])) ((32 :: [40]) ++ joinL ts ++ (32 :: [41])) = T := by rw [hT.out]; exact atL_at zs hG _
  have qq0 := HC.out 0 _ rfl _ hA.from.kp
  clear hbx hA
  go_enter Tryz.func88, Tryz.ntmps88
  go_wp2_with fail
  rw [← hw1.out]
  refine (head_12 K w1 W w1 sv tv x0 x1 y0 z0 y1 z1 zs n tk tn hA1 (by omega)).mono ?_
  rintro e w2 ⟨rfl, t2, hp2⟩
  have q5 := HC.out 5 _ rfl _ hp2.kp
  go_wp2_with fail
  refine (within_of K w1 W w2 sv t2 _ _ [40] [41] ⟨#[40]⟩ ⟨#[41]⟩ ts hp2 hks rfl rfl rfl rfl hts (by omega)).mono ?_
  rintro e wE ⟨rfl, tE, hpE⟩
  rw [hat] at hpE
  go_wp2_with fail
  refine bodyPost_end (results_none rfl _ _ _) rfl ?_
  exact HF.out _ _ hpE
set_option maxRecDepth 20000 in
set_option maxHeartbeats 4000000 in
theorem expr_13 (K : Nat) (A W w : World) (sv tv : Value) (x0 x1 : Option Addr) (y0 z0 y1 z1 : Nat) (zs : List Int) (n tk tn : Int) (h : Pr K A W w sv tv zs)  (ts : List (List Int)) (hks : KidsP W sv (.slice x1 y1 z1) ts) (hts : ts.length ≤ 1000) (hb : zs.length + (([32, 102, 108, 111, 97, 116]) ++ ((32 :: [40]) ++ joinL ts ++ (32 :: [41]))).length ≤ 1000000) :
    Calls Tryz.prog 88 #[.pointer (some ⟨K, 0, none⟩), .agg #[.int .i64 13, .int .i64 n, .int .i64 tk, .int .i64 tn, .slice x0 y0 z0, .slice x1 y1 z1]] w (PrP K A W sv (atL zs (([32, 102, 108, 111, 97, 116]) ++ ((32 :: [40]) ++ joinL ts ++ (32 :: [41]))))) := by
  have hG : Good ([32, 102, 108, 111, 97, 116]) := ⟨by decide, by decide⟩
  obtain ⟨w1, hw1⟩ : ∃ w1, Hid (w1 = w.alloc (.cells #[.int .i64 13, .int .i64 n, .int .i64 tk, .int .i64 tn, .slice x0 y0 z0, .slice x1 y1 z1] 107)) := ⟨_, rfl⟩
  have hK := lt_of_some h.row
  have hA : Pr K A W w1 sv tv zs := by rw [hw1.out]; exact h.alloc _
  have hbx : BxT w.heap.size w1 [.int .i64 13, .int .i64 n, .int .i64 tk, .int .i64 tn, .slice x0 y0 z0, .slice x1 y1 z1] 107 := by rw [hw1.out]; exact BxT.new w _ _
  have HC : Hid (∀ i u, [Value.int .i64 13, .int .i64 n, .int .i64 tk, .int .i64 tn, .slice x0 y0 z0, .slice x1 y1 z1][i]? = some u → ∀ w', KP K w1 w' → w'.cell? ⟨w.heap.size, i, none⟩ = some u) := fun i u hu => hbx.kp (by decide) (by omega) i u hu
  have hsz : Hid (w.heap.size + 1 = w1.heap.size) := by rw [hw1.out]; show _ = _; simp
  have hA1 := hA.from
  obtain ⟨T, hT⟩ := hid_ex (atL zs (([32, 102, 108, 111, 97, 116]) ++ ((32 :: [40]) ++ joinL ts ++ (32 :: [41]))))
  have HF : Hid (∀ w' t', Pr K w1 W w' sv t' T → PrP K A W sv T (.returned (.tuple #[])) w') := fun w' t' hp => ⟨rfl, t', hp.back hA.kp⟩
  rw [← hT.out]
  have hl1 := atL_len zs ([32, 102, 108, 111, 97, 116])
  rw [List.length_append] at hb
  have hat : atL (atL zs ([32, 102, 108, 111, 97, 116])) ((32 :: [40]) ++ joinL ts ++ (32 :: [41])) = T := by rw [hT.out]; exact atL_at zs hG _
  have qq0 := HC.out 0 _ rfl _ hA.from.kp
  clear hbx hA
  go_enter Tryz.func88, Tryz.ntmps88
  go_wp2_with fail
  rw [← hw1.out]
  refine (head_13 K w1 W w1 sv tv x0 x1 y0 z0 y1 z1 zs n tk tn hA1 (by omega)).mono ?_
  rintro e w2 ⟨rfl, t2, hp2⟩
  have q5 := HC.out 5 _ rfl _ hp2.kp
  go_wp2_with fail
  refine (within_of K w1 W w2 sv t2 _ _ [40] [41] ⟨#[40]⟩ ⟨#[41]⟩ ts hp2 hks rfl rfl rfl rfl hts (by omega)).mono ?_
  rintro e wE ⟨rfl, tE, hpE⟩
  rw [hat] at hpE
  go_wp2_with fail
  refine bodyPost_end (results_none rfl _ _ _) rfl ?_
  exact HF.out _ _ hpE
end Go.Proofs.YtbigjeejmacjcaaGreatDoor
/- The program's printer: numbers, fields, places, operations. -/
namespace Go.Proofs.YtbigjeejmacjcaaGreatDoor
open Go.RowKit Go.Lib
def StrL (w : World) (nm : List Int) (e : Ending) (w' : World) : Prop := ∃ s, e = .returned (.string s) ∧ bytesOf s = nm ∧ Later w w'
/-- What the printer takes from the library, and the program's table of signs. -/
structure Env (W : World) : Prop where
  ito : ∀ (n : Int) (w : World), InR n → Later W w → Calls Tryz.prog 106 #[.int .i64 n] w (StrL w (decL n))
  flo : ∀ (n : Int) (w : World), InR n → Later W w → Calls Tryz.prog 107 #[.int .i64 n] w (StrL w (hexL n))
  ops : ∀ i : Nat, i < 7 → ∃ s, W.cell? ⟨0, i, none⟩ = some (.string s) ∧ bytesOf s = opL i
  big : 0 < W.heap.size
theorem midB_snoc (b : List Int) (z : Int) (h : z ≠ 10) : midB (b ++ [z]) = true := by
  unfold midB
  rw [List.getLast?_append]
  simpa using h
theorem midB_digF : ∀ (f n : Nat), midB (digF (f + 1) n) = true := by
  intro f
  cases f with
  | zero =>
    intro n
    unfold digF
    split
    · exact midB_snoc [] _ (by omega)
    · exact midB_snoc _ _ (by omega)
  | succ f =>
    intro n
    unfold digF
    split
    · exact midB_snoc [] _ (by omega)
    · exact midB_snoc _ _ (by omega)
theorem midB_dec (n : Int) : midB (decL n) = true := by
  unfold decL
  split
  · exact midB_append [45] (midB_digF 19 _)
  · exact midB_digF 19 _
theorem midB_hex (n : Int) : midB (hexL n) = true := by
  unfold hexL
  refine midB_append _ ?_
  rw [hexF]
  refine midB_snoc _ _ ?_
  unfold hexD
  split <;> omega
theorem midB_op (n : Int) : midB (opL n) = true := by
  unfold opL
  split
  · rfl
  split
  · rfl
  split
  · rfl
  split
  · rfl
  split
  · rfl
  split
  · rfl
  rfl
set_option maxRecDepth 20000 in
set_option maxHeartbeats 4000000 in
theorem expr_0 (K : Nat) (A W w : World) (sv tv : Value) (x0 x1 : Option Addr) (y0 z0 y1 z1 : Nat) (zs : List Int) (n tk tn : Int) (h : Pr K A W w sv tv zs) (hE : Env W) (hn : InR n) (hb : zs.length + (32 :: decL n).length ≤ 1000000) :
    Calls Tryz.prog 88 #[.pointer (some ⟨K, 0, none⟩), .agg #[.int .i64 0, .int .i64 n, .int .i64 tk, .int .i64 tn, .slice x0 y0 z0, .slice x1 y1 z1]] w (PrP K A W sv (atL zs (32 :: decL n))) := by
  obtain ⟨w1, hw1⟩ : ∃ w1, Hid (w1 = w.alloc (.cells #[.int .i64 0, .int .i64 n, .int .i64 tk, .int .i64 tn, .slice x0 y0 z0, .slice x1 y1 z1] 107)) := ⟨_, rfl⟩
  have hK := lt_of_some h.row
  have hA : Pr K A W w1 sv tv zs := by rw [hw1.out]; exact h.alloc _
  have hbx : BxT w.heap.size w1 [.int .i64 0, .int .i64 n, .int .i64 tk, .int .i64 tn, .slice x0 y0 z0, .slice x1 y1 z1] 107 := by rw [hw1.out]; exact BxT.new w _ _
  have HC : Hid (∀ i u, [Value.int .i64 0, .int .i64 n, .int .i64 tk, .int .i64 tn, .slice x0 y0 z0, .slice x1 y1 z1][i]? = some u → ∀ w', KP K w1 w' → w'.cell? ⟨w.heap.size, i, none⟩ = some u) := fun i u hu => hbx.kp (by decide) (by omega) i u hu
  have hsz : Hid (w.heap.size + 1 = w1.heap.size) := by rw [hw1.out]; show _ = _; simp
  have hA1 := hA.from
  obtain ⟨T, hT⟩ := hid_ex (atL zs (32 :: decL n))
  have HF : Hid (∀ w' t', Pr K w1 W w' sv t' T → PrP K A W sv T (.returned (.tuple #[])) w') := fun w' t' hp => ⟨rfl, t', hp.back hA.kp⟩
  rw [← hT.out]
  clear hbx hA
  go_enter Tryz.func88, Tryz.ntmps88
  go_wp2_with fail
  rw [← hw1.out]
  refine (hE.ito n w1 hn hA1.lat).mono ?_
  rintro e w2 ⟨s, rfl, hs, hw⟩
  have hs1 : midB (bytesOf s) = true := by rw [hs]; exact midB_dec n
  have hp2 := hA1.later hw
  go_wp2_with fail
  refine (put1 K w1 W w2 sv tv zs s (32 :: decL n) (by rw [hs]; simp [spread]) hp2 hs1 hb _ rfl).mono ?_
  rintro e wE ⟨rfl, tE, hpE⟩
  rw [← hT.out] at hpE
  go_wp2_with fail
  refine bodyPost_end (results_none rfl _ _ _) rfl ?_
  exact HF.out _ _ hpE
set_option maxRecDepth 20000 in
set_option maxHeartbeats 4000000 in
theorem expr_1 (K : Nat) (A W w : World) (sv tv : Value) (x0 x1 : Option Addr) (y0 z0 y1 z1 : Nat) (zs : List Int) (n tk tn : Int) (h : Pr K A W w sv tv zs) (hE : Env W) (hn : InR n) (hb : zs.length + (32 :: hexL n).length ≤ 1000000) :
    Calls Tryz.prog 88 #[.pointer (some ⟨K, 0, none⟩), .agg #[.int .i64 1, .int .i64 n, .int .i64 tk, .int .i64 tn, .slice x0 y0 z0, .slice x1 y1 z1]] w (PrP K A W sv (atL zs (32 :: hexL n))) := by
  obtain ⟨w1, hw1⟩ : ∃ w1, Hid (w1 = w.alloc (.cells #[.int .i64 1, .int .i64 n, .int .i64 tk, .int .i64 tn, .slice x0 y0 z0, .slice x1 y1 z1] 107)) := ⟨_, rfl⟩
  have hK := lt_of_some h.row
  have hA : Pr K A W w1 sv tv zs := by rw [hw1.out]; exact h.alloc _
  have hbx : BxT w.heap.size w1 [.int .i64 1, .int .i64 n, .int .i64 tk, .int .i64 tn, .slice x0 y0 z0, .slice x1 y1 z1] 107 := by rw [hw1.out]; exact BxT.new w _ _
  have HC : Hid (∀ i u, [Value.int .i64 1, .int .i64 n, .int .i64 tk, .int .i64 tn, .slice x0 y0 z0, .slice x1 y1 z1][i]? = some u → ∀ w', KP K w1 w' → w'.cell? ⟨w.heap.size, i, none⟩ = some u) := fun i u hu => hbx.kp (by decide) (by omega) i u hu
  have hsz : Hid (w.heap.size + 1 = w1.heap.size) := by rw [hw1.out]; show _ = _; simp
  have hA1 := hA.from
  obtain ⟨T, hT⟩ := hid_ex (atL zs (32 :: hexL n))
  have HF : Hid (∀ w' t', Pr K w1 W w' sv t' T → PrP K A W sv T (.returned (.tuple #[])) w') := fun w' t' hp => ⟨rfl, t', hp.back hA.kp⟩
  rw [← hT.out]
  clear hbx hA
  go_enter Tryz.func88, Tryz.ntmps88
  go_wp2_with fail
  rw [← hw1.out]
  refine (hE.flo n w1 hn hA1.lat).mono ?_
  rintro e w2 ⟨s, rfl, hs, hw⟩
  have hs1 : midB (bytesOf s) = true := by rw [hs]; exact midB_hex n
  have hp2 := hA1.later hw
  go_wp2_with fail
  refine (put1 K w1 W w2 sv tv zs s (32 :: hexL n) (by rw [hs]; simp [spread]) hp2 hs1 hb _ rfl).mono ?_
  rintro e wE ⟨rfl, tE, hpE⟩
  rw [← hT.out] at hpE
  go_wp2_with fail
  refine bodyPost_end (results_none rfl _ _ _) rfl ?_
  exact HF.out _ _ hpE
set_option maxRecDepth 20000 in
set_option maxHeartbeats 4000000 in
theorem expr_7 (K : Nat) (A W w : World) (sv tv : Value) (v0 v1 : Value) (zs : List Int) (n tk tn : Int) (h : Pr K A W w sv tv zs) (m : Nat) (t0 nm : List Int) (hk0 : KidP W sv v1 m 0 t0) (hg0 : Good t0) (hv0 : RdN W v0 nm) (hm : midB nm = true) (hn1 : 1 ≤ nm.length) (hb : zs.length + (t0 ++ ([32, 46, 32] ++ nm)).length ≤ 1000000) :
    Calls Tryz.prog 88 #[.pointer (some ⟨K, 0, none⟩), .agg #[.int .i64 7, .int .i64 n, .int .i64 tk, .int .i64 tn, v0, v1]] w (PrP K A W sv (atL zs (t0 ++ ([32, 46, 32] ++ nm)))) := by
  obtain ⟨s, g0, off0, q, rfl, _, hs, hcv⟩ := nm_string hv0 hn1
  have hs1 : midB (bytesOf s) = true := by rw [hs]; exact hm
  obtain ⟨hm0, g, off, cap1, k0, n0, tk0, tn0, x0, x1, y0, z0, y1, z1, rfl, hgW, hcl, hcall⟩ := hk0
  obtain ⟨c0, c1, c2, c3, c4, c5⟩ := hcl w h.lat
  rw [Nat.zero_mul, Nat.add_zero] at c0 c1 c2 c3 c4 c5
  have hgw : g < w.heap.size := Nat.lt_of_lt_of_le hgW h.lat.size
  have hm0' : (0 : Int) < (m : Int) := by omega
  obtain ⟨w1, hw1⟩ : ∃ w1, Hid (w1 = w.alloc (.cells #[.int .i64 7, .int .i64 n, .int .i64 tk, .int .i64 tn, .slice (some ⟨g0, off0, none⟩) nm.length q, .slice (some ⟨g, off, none⟩) m cap1] 107)) := ⟨_, rfl⟩
  have hK := lt_of_some h.row
  have hA : Pr K A W w1 sv tv zs := by rw [hw1.out]; exact h.alloc _
  have hbx : BxT w.heap.size w1 [.int .i64 7, .int .i64 n, .int .i64 tk, .int .i64 tn, .slice (some ⟨g0, off0, none⟩) nm.length q, .slice (some ⟨g, off, none⟩) m cap1] 107 := by rw [hw1.out]; exact BxT.new w _ _
  have HC : Hid (∀ i u, [Value.int .i64 7, .int .i64 n, .int .i64 tk, .int .i64 tn, .slice (some ⟨g0, off0, none⟩) nm.length q, .slice (some ⟨g, off, none⟩) m cap1][i]? = some u → ∀ w', KP K w1 w' → w'.cell? ⟨w.heap.size, i, none⟩ = some u) := fun i u hu => hbx.kp (by decide) (by omega) i u hu
  have hsz : Hid (w.heap.size + 1 = w1.heap.size) := by rw [hw1.out]; show _ = _; simp
  have hA1 := hA.from
  obtain ⟨T, hT⟩ := hid_ex (atL zs (t0 ++ ([32, 46, 32] ++ nm)))
  have HF : Hid (∀ w' t', Pr K w1 W w' sv t' T → PrP K A W sv T (.returned (.tuple #[])) w') := fun w' t' hp => ⟨rfl, t', hp.back hA.kp⟩
  rw [← hT.out]
  have hl1 := atL_len zs t0
  rw [List.length_append] at hb
  have hat : atL (atL zs t0) ([32, 46, 32] ++ nm) = T := by rw [hT.out]; exact atL_at zs hg0 _
  have HK := hcall K w1 w1 tv zs hA1 (by omega)
  clear hcl hcall
  clear hbx hA
  go_enter Tryz.func88, Tryz.ntmps88
  go_wp2_with fail
  rw [← hw1.out]
  refine HK.mono ?_
  rintro e w2 ⟨rfl, t2, hp2⟩
  have q4 := HC.out 4 _ rfl _ hp2.kp
  have cv := hcv w2 hp2.lat
  go_wp2_with fail
  refine (put2 K w1 W w2 sv t2 _ ⟨#[46]⟩ s ([32, 46, 32] ++ nm) (by rw [hs]; simp [spread, bytesOf]) hp2 (by decide) hs1 (by omega) _ rfl).mono ?_
  rintro e wE ⟨rfl, tE, hpE⟩
  rw [hat] at hpE
  go_wp2_with fail
  refine bodyPost_end (results_none rfl _ _ _) rfl ?_
  exact HF.out _ _ hpE
/-- The kids behind the first. -/
theorem kids_tail {W : World} {sv : Value} {g off cap : Nat} {t1 : List Int} (h : KidP W sv (.slice (some ⟨g, off, none⟩) 2 cap) 2 1 t1) (hg : Good t1) (c : Nat) : KidsP W sv (.slice (some ⟨g, off + 6, none⟩) 1 c) [t1] := by
  obtain ⟨_, g', off', cap', k, n, tk, tn, x0, x1, y0, z0, y1, z1, e, hgs, hcl, hcall⟩ := h
  cases e
  refine ⟨_, c, rfl, by simpa using hg, fun j hj => ?_⟩
  obtain rfl : j = 0 := by simpa using hj
  refine ⟨by simp, g, off + 6, c, k, n, tk, tn, x0, x1, y0, z0, y1, z1, rfl, hgs, fun w' hw => ?_, hcall⟩
  have := hcl w' hw
  simpa using this
set_option maxRecDepth 20000 in
set_option maxHeartbeats 4000000 in
theorem expr_8 (K : Nat) (A W w : World) (sv tv : Value) (v1 : Value) (x0 : Option Addr) (y0 z0 : Nat) (zs : List Int) (n tk tn : Int) (h : Pr K A W w sv tv zs) (t0 t1 : List Int) (hk0 : KidP W sv v1 2 0 t0) (hk1 : KidP W sv v1 2 1 t1) (hg0 : Good t0) (hg1 : Good t1) (hv1 : ∃ a c, v1 = .slice a 2 c ∧ 2 ≤ c) (hb : zs.length + (t0 ++ ((32 :: [91]) ++ joinL [t1] ++ (32 :: [93]))).length ≤ 1000000) :
    Calls Tryz.prog 88 #[.pointer (some ⟨K, 0, none⟩), .agg #[.int .i64 8, .int .i64 n, .int .i64 tk, .int .i64 tn, .slice x0 y0 z0, v1]] w (PrP K A W sv (atL zs (t0 ++ ((32 :: [91]) ++ joinL [t1] ++ (32 :: [93]))))) := by
  obtain ⟨hm0, g, off, cap1, k0, n0, tk0, tn0, xx0, xx1, yy0, zz0, yy1, zz1, rfl, hgW, hcl, hcall⟩ := hk0
  obtain ⟨c0, c1, c2, c3, c4, c5⟩ := hcl w h.lat
  rw [Nat.zero_mul, Nat.add_zero] at c0 c1 c2 c3 c4 c5
  have hgw : g < w.heap.size := Nat.lt_of_lt_of_le hgW h.lat.size
  have hm0' : True := trivial
  have hc2 : 2 ≤ cap1 := by obtain ⟨a, c, e, hc⟩ := hv1; cases e; exact hc
  obtain ⟨w1, hw1⟩ : ∃ w1, Hid (w1 = w.alloc (.cells #[.int .i64 8, .int .i64 n, .int .i64 tk, .int .i64 tn, .slice x0 y0 z0, .slice (some ⟨g, off, none⟩) 2 cap1] 107)) := ⟨_, rfl⟩
  have hK := lt_of_some h.row
  have hA : Pr K A W w1 sv tv zs := by rw [hw1.out]; exact h.alloc _
  have hbx : BxT w.heap.size w1 [.int .i64 8, .int .i64 n, .int .i64 tk, .int .i64 tn, .slice x0 y0 z0, .slice (some ⟨g, off, none⟩) 2 cap1] 107 := by rw [hw1.out]; exact BxT.new w _ _
  have HC : Hid (∀ i u, [Value.int .i64 8, .int .i64 n, .int .i64 tk, .int .i64 tn, .slice x0 y0 z0, .slice (some ⟨g, off, none⟩) 2 cap1][i]? = some u → ∀ w', KP K w1 w' → w'.cell? ⟨w.heap.size, i, none⟩ = some u) := fun i u hu => hbx.kp (by decide) (by omega) i u hu
  have hsz : Hid (w.heap.size + 1 = w1.heap.size) := by rw [hw1.out]; show _ = _; simp
  have hA1 := hA.from
  obtain ⟨T, hT⟩ := hid_ex (atL zs (t0 ++ ((32 :: [91]) ++ joinL [t1] ++ (32 :: [93]))))
  have HF : Hid (∀ w' t', Pr K w1 W w' sv t' T → PrP K A W sv T (.returned (.tuple #[])) w') := fun w' t' hp => ⟨rfl, t', hp.back hA.kp⟩
  rw [← hT.out]
  have hl1 := atL_len zs t0
  rw [List.length_append] at hb
  have hat : atL (atL zs t0) ((32 :: [91]) ++ joinL [t1] ++ (32 :: [93])) = T := by rw [hT.out]; exact atL_at zs hg0 _
  have HK := hcall K w1 w1 tv zs hA1 (by omega)
  clear hcl hcall
  clear hbx hA
  go_enter Tryz.func88, Tryz.ntmps88
  go_wp2_with fail
  rw [← hw1.out]
  refine HK.mono ?_
  rintro e w2 ⟨rfl, t2, hp2⟩
  have q5 := HC.out 5 _ rfl _ hp2.kp
  go_wp2_with fail
  refine (within_of K w1 W w2 sv t2 _ _ [91] [93] ⟨#[91]⟩ ⟨#[93]⟩ [t1] hp2 (kids_tail hk1 hg1 _) rfl rfl rfl rfl (by simp) (by omega)).mono ?_
  rintro e wE ⟨rfl, tE, hpE⟩
  rw [hat] at hpE
  go_wp2_with fail
  refine bodyPost_end (results_none rfl _ _ _) rfl ?_
  exact HF.out _ _ hpE
set_option maxRecDepth 20000 in
set_option maxHeartbeats 4000000 in
theorem expr_10 (K : Nat) (A W w : World) (sv tv : Value) (x0 x1 : Option Addr) (y0 z0 y1 z1 : Nat) (zs : List Int) (n tk tn : Int) (h : Pr K A W w sv tv zs) (hE : Env W) (h0 : 0 ≤ n) (h7 : n < 7) (ts : List (List Int)) (hks : KidsP W sv (.slice x1 y1 z1) ts) (hts : ts.length ≤ 1000) (hne : ts ≠ []) (hb : zs.length + ([32, 40] ++ (joinG (opL n) ts ++ [32, 41])).length ≤ 1000000) :
    Calls Tryz.prog 88 #[.pointer (some ⟨K, 0, none⟩), .agg #[.int .i64 10, .int .i64 n, .int .i64 tk, .int .i64 tn, .slice x0 y0 z0, .slice x1 y1 z1]] w (PrP K A W sv (atL zs ([32, 40] ++ (joinG (opL n) ts ++ [32, 41])))) := by
  obtain ⟨N, rfl⟩ : ∃ N : Nat, n = N := ⟨n.toNat, by omega⟩
  obtain ⟨s, hs0, hs⟩ := hE.ops N (by omega)
  have hbig := hE.big
  have hG : Good (joinG (opL (N : Int)) ts) := by
    obtain ⟨_, _, _, hg, _⟩ := hks
    have := joinG_good (opL (N : Int)) (midB_op _) ts hg ts.length (by cases ts with | nil => exact absurd rfl hne | cons a r => simp) (Nat.le_refl _)
    rwa [List.take_length] at this
  obtain ⟨w1, hw1⟩ : ∃ w1, Hid (w1 = w.alloc (.cells #[.int .i64 10, .int .i64 (N : Int), .int .i64 tk, .int .i64 tn, .slice x0 y0 z0, .slice x1 y1 z1] 107)) := ⟨_, rfl⟩
  have hK := lt_of_some h.row
  have hA : Pr K A W w1 sv tv zs := by rw [hw1.out]; exact h.alloc _
  have hbx : BxT w.heap.size w1 [.int .i64 10, .int .i64 (N : Int), .int .i64 tk, .int .i64 tn, .slice x0 y0 z0, .slice x1 y1 z1] 107 := by rw [hw1.out]; exact BxT.new w _ _
  have HC : Hid (∀ i u, [Value.int .i64 10, .int .i64 (N : Int), .int .i64 tk, .int .i64 tn, .slice x0 y0 z0, .slice x1 y1 z1][i]? = some u → ∀ w', KP K w1 w' → w'.cell? ⟨w.heap.size, i, none⟩ = some u) := fun i u hu => hbx.kp (by decide) (by omega) i u hu
  have hsz : Hid (w.heap.size + 1 = w1.heap.size) := by rw [hw1.out]; show _ = _; simp
  have hA1 := hA.from
  obtain ⟨T, hT⟩ := hid_ex (atL zs ([32, 40] ++ (joinG (opL (N : Int)) ts ++ [32, 41])))
  have HF : Hid (∀ w' t', Pr K w1 W w' sv t' T → PrP K A W sv T (.returned (.tuple #[])) w') := fun w' t' hp => ⟨rfl, t', hp.back hA.kp⟩
  rw [← hT.out]
  have hl1 := atL_len zs [32, 40]
  have hl2 := atL_len zs ([32, 40] ++ joinG (opL (N : Int)) ts)
  rw [List.length_append, List.length_append] at hb
  rw [List.length_append] at hl2
  have hb0 : ([32, 40] : List Int).length = 2 := rfl
  have hb1 : ([32, 41] : List Int).length = 2 := rfl
  have hat1 : atL (atL zs [32, 40]) (joinG (opL (N : Int)) ts) = atL zs ([32, 40] ++ joinG (opL (N : Int)) ts) := atL_at zs ⟨by decide, by decide⟩ _
  have hat : atL (atL zs ([32, 40] ++ joinG (opL (N : Int)) ts)) [32, 41] = T := by rw [hT.out, ← List.append_assoc]; exact atL_at zs (Good.app ⟨by decide, by decide⟩ hG) _
  have hN : N < 7 := by omega
  have hN' : (N : Int) < 7 := by omega
  clear hbx hA
  go_enter Tryz.func88, Tryz.ntmps88
  go_wp2_with fail
  rw [← hw1.out]
  refine (put1 K w1 W w1 sv tv zs ⟨#[40]⟩ [32, 40] rfl hA1 (by decide) (by omega) _ hsz.out).mono ?_
  rintro e w2 ⟨rfl, t2, hp2⟩
  have q1 := HC.out 1 _ rfl _ hp2.kp
  have q5 := HC.out 5 _ rfl _ hp2.kp
  have qs := hp2.at hbig hs0
  have HS : Hid (∀ w', KP K w1 w' → Later W w' → (fun w' => w'.cell? ⟨w.heap.size, 5, none⟩ = some (.slice x1 y1 z1) ∧ w'.cell? ⟨w.heap.size, 1, none⟩ = some (.int .i64 (N : Int)) ∧ w'.cell? ⟨0, N, none⟩ = some (.string s)) w') := fun w' k la => ⟨HC.out 5 _ rfl _ k, HC.out 1 _ rfl _ k, by rw [la.cell (p := ⟨0, N, none⟩) hbig]; exact hs0⟩
  have hpd := hp2.later (Later.drew w2)
  go_wp2_with fail
  go_region_held3 (fun w' => w'.cell? ⟨w.heap.size, 5, none⟩ = some (.slice x1 y1 z1) ∧ w'.cell? ⟨w.heap.size, 1, none⟩ = some (.int .i64 (N : Int)) ∧ w'.cell? ⟨0, N, none⟩ = some (.string s)) (first | exact HS.out _ hpd.kp hpd.lat | exact HS.out _ hp3.kp hp3.lat) ((go_at_call 87; refine (exprs_of K w1 W _ sv t2 _ _ (opL (N : Int)) s ts hpd hks hs (midB_op _) hts (by omega)).mono ?_; rintro e w3 ⟨rfl, t3, hp3⟩))
  rw [hat1] at hp3
  go_wp2_with fail
  refine (put1 K w1 W w3 sv t3 _ ⟨#[41]⟩ [32, 41] rfl hp3 (by decide) (by omega) _ rfl).mono ?_
  rintro e wE ⟨rfl, tE, hpE⟩
  rw [hat] at hpE
  go_wp2_with fail
  refine bodyPost_end (results_none rfl _ _ _) rfl ?_
  exact HF.out _ _ hpE
end Go.Proofs.YtbigjeejmacjcaaGreatDoor
/- The program's printer: every expression. -/
namespace Go.Proofs.YtbigjeejmacjcaaGreatDoor
open Go.RowKit Go.Lib
structure NodeTk (l : List Sc) (k n tk tn : Int) (name : List Int) (m : Nat) : Prop where
  tok : k = 3 ∨ k = 6 ∨ k = 7 → midB name = true
  two : k = 8 ∨ k = 10 → m = 2
  ty : k = 5 → TyFine l tk tn
inductive Ex.FineI (l : List Sc) : Ex → Prop
  | mk {k n tk tn : Int} {name : List Int} {kids : List Ex} (h : NodeOk l k n tk tn name kids.length) (ht : NodeTk l k n tk tn name kids.length) (hs : ∀ x ∈ kids, Ex.FineI l x) : Ex.FineI l (.mk k n tk tn name kids)
theorem Ex.FineI.fine {l : List Sc} : ∀ {x : Ex}, Ex.FineI l x → Ex.Fine l x := by
  intro x h
  induction h with
  | mk h ht hs ih => exact .mk h ih
theorem NamesTok.fit {l : List Sc} (h : NamesTok l) : NamesFit l := fun x hx => (h x hx).1
theorem say_good {l : List Sc} (hnm : NamesTok l) {x : Ex} (h : Ex.FineI l x) : Good (Ex.say l x) := by
  refine ⟨say_two h.fine, ?_⟩
  cases h with
  | @mk k n tk tn name kids h ht hs =>
  rw [Ex.say]
  obtain rfl | rfl | rfl | rfl | rfl | rfl | rfl | rfl | rfl | rfl | rfl | rfl | rfl | rfl := fourteen h.k0 h.k13
  · exact midB_append [32] (midB_dec n)
  · exact midB_append [32] (midB_hex n)
  · exact midB_append [32, 110, 105, 108, 32] (hnm.at (h.st (.inl rfl)).1 (h.st (.inl rfl)).2).2
  · exact midB_append [32] (ht.tok (.inl rfl))
  · exact midB_append [32, 110, 101, 119, 32] (hnm.at (h.st (.inr rfl)).1 (h.st (.inr rfl)).2).2
  · exact midB_append (headL l 5 tk tn name ++ [32, 40] ++ joinL (Ex.says l kids)) (t := [32, 41]) rfl
  · exact midB_append (headL l 6 tk tn name ++ [32, 40] ++ joinL (Ex.says l kids)) (t := [32, 41]) rfl
  · exact midB_append (kidL (Ex.says l kids) 0 ++ [32, 46, 32]) (ht.tok (.inr (.inr rfl)))
  · exact midB_append (kidL (Ex.says l kids) 0 ++ [32, 91] ++ kidL (Ex.says l kids) 1) (t := [32, 93]) rfl
  · exact midB_append (headL l 9 tk tn name ++ [32, 40] ++ joinL (Ex.says l kids)) (t := [32, 41]) rfl
  · exact midB_append ([32, 40] ++ kidL (Ex.says l kids) 0 ++ (32 :: opL n) ++ kidL (Ex.says l kids) 1) (t := [32, 41]) rfl
  · rfl
  · exact midB_append (headL l 12 tk tn name ++ [32, 40] ++ joinL (Ex.says l kids)) (t := [32, 41]) rfl
  · exact midB_append (headL l 13 tk tn name ++ [32, 40] ++ joinL (Ex.says l kids)) (t := [32, 41]) rfl
def ExprC (W : World) (sv : Value) (l : List Sc) (x : Ex) : Prop := ∀ K A w tv v0 v1 zs, RdN W v0 x.name → RdL W 6 v1 (Ex.dats x.kids) → Pr K A W w sv tv zs → zs.length + (Ex.say l x).length ≤ 1000000 →
    Calls Tryz.prog 88 #[.pointer (some ⟨K, 0, none⟩), .agg #[.int .i64 x.kind, .int .i64 x.n, .int .i64 x.tk, .int .i64 x.tn, v0, v1]] w (PrP K A W sv (atL zs (Ex.say l x)))
theorem kidP_of {W : World} {l : List Sc} {sv : Value} {a : Option Addr} {n cap : Nat} {kids : List Ex} (h1 : RdL W 6 (.slice a n cap) (Ex.dats kids)) (j : Nat) (hj : j < kids.length) (hn : n = kids.length) (ih : ExprC W sv l kids[j]) :
    KidP W sv (.slice a n cap) kids.length j (Ex.say l kids[j]) := by
  obtain ⟨g, off, u0, u1, rfl, hgs, c0, c1, c2, c3, c4, c5, r0, r1⟩ := Ex.elem h1 j hj
  obtain ⟨b0, p0, rfl, _⟩ := r0.slice
  obtain ⟨b1, p1, rfl, _⟩ := Ex.slice r1
  refine ⟨hj, g, off, cap, _, _, _, _, b0, b1, _, p0, _, p1, by rw [hn], hgs, fun w' hw => ?_, fun K A w tv zs hB hl => ih K A w tv _ _ zs r0 r1 hB hl⟩
  exact ⟨by rw [hw.cell (p := ⟨g, off + j * 6, none⟩) hgs]; exact c0, by rw [hw.cell (p := ⟨g, off + j * 6 + 1, none⟩) hgs]; exact c1, by rw [hw.cell (p := ⟨g, off + j * 6 + 2, none⟩) hgs]; exact c2, by rw [hw.cell (p := ⟨g, off + j * 6 + 3, none⟩) hgs]; exact c3, by rw [hw.cell (p := ⟨g, off + j * 6 + 4, none⟩) hgs]; exact c4, by rw [hw.cell (p := ⟨g, off + j * 6 + 5, none⟩) hgs]; exact c5⟩
theorem kidsP_of {W : World} {l : List Sc} {sv : Value} {a : Option Addr} {cap : Nat} {kids : List Ex} (hnm : NamesTok l) (h1 : RdL W 6 (.slice a kids.length cap) (Ex.dats kids)) (hf : ∀ x ∈ kids, Ex.FineI l x) (ih : ∀ (j : Nat) (hj : j < kids.length), ExprC W sv l kids[j]) :
    KidsP W sv (.slice a kids.length cap) (Ex.says l kids) := ⟨a, cap, by rw [Ex.says_len], fun t ht => by
    obtain ⟨j, hj, rfl⟩ := List.mem_iff_getElem.1 ht
    have hj' : j < kids.length := by rw [← Ex.says_len l]; exact hj
    rw [says_get l kids j hj hj']
    exact say_good hnm (hf _ (List.getElem_mem hj')), fun j hj => by
    have hj' : j < kids.length := by rw [← Ex.says_len l]; exact hj
    rw [says_get l kids j hj hj', Ex.says_len]
    exact kidP_of h1 j hj' rfl (ih j hj')⟩
theorem expr_all {W : World} {l : List Sc} {sv : Value} (hE : Env W) (hl : RdL W 2 sv (Sc.dats l)) (hnm : NamesTok l) (N : Nat) : ∀ (x : Ex), x.sz < N → Ex.FineI l x → ExprC W sv l x := by
  induction N with
  | zero =>
    intro x hx
    exact absurd hx (Nat.not_lt_zero _)
  | succ N ih =>
    intro x hx hf K A w tv v0 v1 zs h0 h1 hB hb
    cases hf with
    | @mk k n tk tn name kids h ht hs =>
    replace h0 : RdN W v0 name := h0
    replace h1 : RdL W 6 v1 (Ex.dats kids) := h1
    show Calls Tryz.prog 88 #[.pointer (some ⟨K, 0, none⟩), .agg #[.int .i64 k, .int .i64 n, .int .i64 tk, .int .i64 tn, v0, v1]] w (PrP K A W sv (atL zs (Ex.say l (.mk k n tk tn name kids))))
    obtain ⟨a1, cap1, rfl, hsl⟩ := Ex.slice h1
    have hcap : kids.length ≤ cap1 := by
      obtain ⟨a', cap', e, hc, _⟩ := h1
      have := hc.1
      rw [Ex.dats_len] at this
      injection e with e1 e2 e3
      omega
    have hsz : ∀ (j : Nat) (hj : j < kids.length), kids[j].sz < N := fun j hj => by
      have := Ex.sz_at kids j hj
      rw [Ex.sz] at hx
      omega
    have ihk : ∀ (j : Nat) (hj : j < kids.length), ExprC W sv l kids[j] := fun j hj => ih kids[j] (hsz j hj) (hs _ (List.getElem_mem hj))
    have hK : ∀ (j : Nat) (hj : j < kids.length), KidP W sv (.slice a1 kids.length cap1) kids.length j (Ex.say l kids[j]) := fun j hj => kidP_of h1 j hj rfl (ihk j hj)
    have hKg : ∀ (j : Nat) (hj : j < kids.length), Good (Ex.say l kids[j]) := fun j hj => say_good hnm (hs _ (List.getElem_mem hj))
    have hKs : KidsP W sv (.slice a1 kids.length cap1) (Ex.says l kids) := kidsP_of hnm h1 hs ihk
    have hm : (Ex.says l kids).length ≤ 1000 := by rw [Ex.says_len]; exact h.many
    have hml : (Ex.says l kids).length = kids.length := Ex.says_len l kids
    have hk0 : ∀ (hj : 0 < kids.length), kidL (Ex.says l kids) 0 = Ex.say l kids[0] := fun hj => Ex.says_at l kids 0 hj
    have hk1 : ∀ (hj : 1 < kids.length), kidL (Ex.says l kids) 1 = Ex.say l kids[1] := fun hj => Ex.says_at l kids 1 hj
    rw [Ex.say] at hb ⊢
    generalize Ex.says l kids = ts at *
    obtain ⟨b0, p0, rfl, _⟩ := h0.slice
    obtain rfl | rfl | rfl | rfl | rfl | rfl | rfl | rfl | rfl | rfl | rfl | rfl | rfl | rfl := fourteen h.k0 h.k13
    · exact expr_0 K A W w sv tv b0 a1 _ p0 _ cap1 zs n tk tn hB hE h.n64 hb
    · exact expr_1 K A W w sv tv b0 a1 _ p0 _ cap1 zs n tk tn hB hE h.n64 hb
    · exact expr_2 K A W w sv tv b0 a1 _ p0 _ cap1 zs n tk tn hB l hl (h.st (.inl rfl)).1 (h.st (.inl rfl)).2 (hnm.at (h.st (.inl rfl)).1 (h.st (.inl rfl)).2) hb
    · exact expr_3 K A W w sv tv _ a1 _ cap1 zs n tk tn hB name h0 (ht.tok (.inl rfl)) (h.nm (.inl rfl)) hb
    · exact expr_4 K A W w sv tv b0 a1 _ p0 _ cap1 zs n tk tn hB l hl (h.st (.inr rfl)).1 (h.st (.inr rfl)).2 (hnm.at (h.st (.inr rfl)).1 (h.st (.inr rfl)).2) hb
    · have e : exL l 5 n tk tn name ts = ([32, 109, 97, 107, 101] ++ sayTy l tk tn) ++ ((32 :: [40]) ++ joinL ts ++ (32 :: [41])) := by
        show [32, 109, 97, 107, 101] ++ sayTy l tk tn ++ [32, 40] ++ joinL ts ++ [32, 41] = _
        simp only [List.append_assoc]
      rw [e] at hb ⊢
      exact expr_5 K A W w sv tv b0 a1 _ p0 _ cap1 zs n tk tn hB l hl hnm (ht.ty rfl) ts hKs hm hb
    · have e : exL l 6 n tk tn name ts = (32 :: name) ++ ((32 :: [40]) ++ joinL ts ++ (32 :: [41])) := by
        show (32 :: name) ++ [32, 40] ++ joinL ts ++ [32, 41] = _
        simp only [List.append_assoc]
      rw [e] at hb ⊢
      exact expr_6 K A W w sv tv _ a1 _ cap1 zs n tk tn hB name h0 (ht.tok (.inr (.inl rfl))) (h.nm (.inr (.inl rfl))) ts hKs hm hb
    · have hj : 0 < kids.length := h.one (.inl rfl)
      have e : exL l 7 n tk tn name ts = Ex.say l kids[0] ++ ([32, 46, 32] ++ name) := by rw [← hk0 hj, ← List.append_assoc]; rfl
      rw [e] at hb ⊢
      exact expr_7 K A W w sv tv _ _ zs n tk tn hB _ _ name (hK 0 hj) (hKg 0 hj) h0 (ht.tok (.inr (.inr rfl))) (h.nm (.inr (.inr rfl))) hb
    · have hj : 1 < kids.length := h.two (.inl rfl)
      have h2 : kids.length = 2 := ht.two (.inl rfl)
      have e : exL l 8 n tk tn name ts = Ex.say l kids[0] ++ (((32 :: [91] : List Int)) ++ joinL [Ex.say l kids[1]] ++ (32 :: [93])) := by
        rw [← hk0 (by omega), ← hk1 hj]
        show kidL ts 0 ++ [32, 91] ++ kidL ts 1 ++ [32, 93] = _
        simp [joinL, tailL]
      rw [e] at hb ⊢
      have k0 := hK 0 (by omega)
      have k1 := hK 1 hj
      have g0 := hKg 0 (by omega)
      have g1 := hKg 1 hj
      generalize Ex.say l kids[0] = t0 at k0 g0 hb ⊢
      generalize Ex.say l kids[1] = t1 at k1 g1 hb ⊢
      rw [h2] at k0 k1 ⊢
      exact expr_8 K A W w sv tv _ b0 _ p0 zs n tk tn hB _ _ k0 k1 g0 g1 ⟨a1, cap1, rfl, by omega⟩ hb
    · have e : exL l 9 n tk tn name ts = [32, 108, 101, 110] ++ ((32 :: [40]) ++ joinL ts ++ (32 :: [41])) := by
        show [32, 108, 101, 110] ++ [32, 40] ++ joinL ts ++ [32, 41] = _
        simp only [List.append_assoc]
      rw [e] at hb ⊢
      exact expr_9 K A W w sv tv b0 a1 _ p0 _ cap1 zs n tk tn hB ts hKs hm hb
    · have hj : 1 < kids.length := h.two (.inr rfl)
      have h2 : kids.length = 2 := ht.two (.inr rfl)
      have hts : ts = [kidL ts 0, kidL ts 1] := by
        match ts, hml with
        | [], hml => simp at hml; omega
        | [a], hml => simp at hml; omega
        | [a, b], _ => rfl
        | a :: b :: c :: r, hml => simp at hml; omega
      have e : exL l 10 n tk tn name ts = [32, 40] ++ (joinG (opL n) ts ++ [32, 41]) := by
        show [32, 40] ++ kidL ts 0 ++ (32 :: opL n) ++ kidL ts 1 ++ [32, 41] = _
        conv => rhs; rw [hts]
        simp [joinG, tailG]
      rw [e] at hb ⊢
      exact expr_10 K A W w sv tv b0 a1 _ p0 _ cap1 zs n tk tn hB hE (h.op rfl).1 (h.op rfl).2 ts hKs hm (by rw [hts]; simp) hb
    · exact expr_11 K A W w sv tv b0 a1 _ p0 _ cap1 zs n tk tn hB hb
    · have e : exL l 12 n tk tn name ts = [32, 105, 110, 116] ++ ((32 :: [40]) ++ joinL ts ++ (32 :: [41])) := by
        show [32, 105, 110, 116] ++ [32, 40] ++ joinL ts ++ [32, 41] = _
        simp only [List.append_assoc]
      rw [e] at hb ⊢
      exact expr_12 K A W w sv tv b0 a1 _ p0 _ cap1 zs n tk tn hB ts hKs hm hb
    · have e : exL l 13 n tk tn name ts = [32, 102, 108, 111, 97, 116] ++ ((32 :: [40]) ++ joinL ts ++ (32 :: [41])) := by
        show [32, 102, 108, 111, 97, 116] ++ [32, 40] ++ joinL ts ++ [32, 41] = _
        simp only [List.append_assoc]
      rw [e] at hb ⊢
      exact expr_13 K A W w sv tv b0 a1 _ p0 _ cap1 zs n tk tn hB ts hKs hm hb
theorem expr_any {W : World} {l : List Sc} {sv : Value} (hE : Env W) (hl : RdL W 2 sv (Sc.dats l)) (hnm : NamesTok l) (x : Ex) (hf : Ex.FineI l x) : ExprC W sv l x := expr_all hE hl hnm _ x (Nat.lt_succ_self _) hf
end Go.Proofs.YtbigjeejmacjcaaGreatDoor
/- The program's printer: a block of statements. -/
namespace Go.Proofs.YtbigjeejmacjcaaGreatDoor
open Go.RowKit Go.Lib
/-- The statement at j reads as one whose text is t, and the program's printer puts it. -/
def StP (W : World) (sv v1 : Value) (m j : Nat) (t : List Int) : Prop := j < m ∧ ∃ (g off cap : Nat) (k n tk tn : Int) (x0 x1 x2 x3 : Option Addr) (y0 z0 y1 z1 y2 z2 y3 z3 : Nat), v1 = .slice (some ⟨g, off, none⟩) m cap ∧ g < W.heap.size ∧
  (∀ w', Later W w' → w'.cell? ⟨g, off + j * 8, none⟩ = some (.int .i64 k) ∧ w'.cell? ⟨g, off + j * 8 + 1, none⟩ = some (.int .i64 n) ∧ w'.cell? ⟨g, off + j * 8 + 2, none⟩ = some (.int .i64 tk) ∧ w'.cell? ⟨g, off + j * 8 + 3, none⟩ = some (.int .i64 tn) ∧ w'.cell? ⟨g, off + j * 8 + 4, none⟩ = some (.slice x0 y0 z0) ∧ w'.cell? ⟨g, off + j * 8 + 5, none⟩ = some (.slice x1 y1 z1) ∧ w'.cell? ⟨g, off + j * 8 + 6, none⟩ = some (.slice x2 y2 z2) ∧ w'.cell? ⟨g, off + j * 8 + 7, none⟩ = some (.slice x3 y3 z3)) ∧
  ∃ X, X ++ [10] = t ∧ (∀ K A w tv zs, Pr K A W w sv tv zs → midB zs = false → zs.length + t.length ≤ 999999 → Calls Tryz.prog 65 #[.pointer (some ⟨K, 0, none⟩), .agg #[.int .i64 k, .int .i64 n, .int .i64 tk, .int .i64 tn, .slice x0 y0 z0, .slice x1 y1 z1, .slice x2 y2 z2, .slice x3 y3 z3]] w (PrP K A W sv (zs ++ X)))
/-- A list of statements whose text is t, put as a block. -/
def BlkP (W : World) (sv v1 : Value) (t : List Int) : Prop := ∃ a n c, v1 = .slice a n c ∧ ∀ K A w tv zs, Pr K A W w sv tv zs → midB zs = true → zs.length + (blockL t).length ≤ 999999 → Calls Tryz.prog 39 #[.pointer (some ⟨K, 0, none⟩), v1] w (PrP K A W sv (zs ++ blockL t))
set_option maxRecDepth 20000 in
set_option maxHeartbeats 4000000 in
theorem block_of (W : World) (sv : Value) (a1 : Option Addr) (cap1 : Nat) (Ts : List (List Int)) (hTs : Ts.length ≤ 1000000)
    (hst : ∀ (j : Nat) (hj : j < Ts.length), StP W sv (.slice a1 Ts.length cap1) Ts.length j Ts[j]) : BlkP W sv (.slice a1 Ts.length cap1) Ts.flatten := by
  refine ⟨_, _, _, rfl, ?_⟩
  intro K A w tv zs h hmid hb
  have hbl : (blockL Ts.flatten).length = Ts.flatten.length + 4 := by unfold blockL; simp
  rw [hbl] at hb
  have HKs : Hid (∀ (j : Nat) (hj : j < Ts.length), StP W sv (.slice a1 Ts.length cap1) Ts.length j Ts[j]) := hst
  have HF : Hid (∀ w' t', Pr K w W w' sv t' (zs ++ [32, 123, 10] ++ Ts.flatten ++ [125]) → PrP K A W sv (zs ++ blockL Ts.flatten) (.returned (.tuple #[])) w') := fun w' t' hp => ⟨rfl, t', by
    have := hp.back h.kp
    unfold blockL
    simpa only [List.append_assoc] using this⟩
  have hp0 := h.from
  have he1 : atL zs [32, 123] ++ [10] = zs ++ [32, 123, 10] := by rw [atL_mid hmid, List.append_assoc]; rfl
  have hl1 := atL_len zs [32, 123]
  have hlz : (zs ++ [32, 123, 10]).length = zs.length + 3 := by simp
  have hlb : ([32, 123] : List Int).length = 2 := rfl
  have hm3 : midB (zs ++ [32, 123, 10] ++ (Ts.take 0).flatten) = false := by
    rw [List.take_zero, List.flatten_nil, List.append_nil]
    unfold midB
    rw [List.getLast?_append]
    rfl
  generalize hQ : PrP K A W sv (zs ++ blockL Ts.flatten) = Q
  rw [hQ] at HF
  clear hQ hst h hbl
  go_enter Tryz.func39, Tryz.ntmps39
  go_wp2_with fail
  refine (put1 K w W w sv tv zs ⟨#[123]⟩ [32, 123] rfl hp0 (by decide) (by omega) _ rfl).mono ?_
  rintro e w2 ⟨rfl, t2, hp2⟩
  go_wp2_with fail
  refine (endLine_any K w W w2 sv t2 _ hp2 (by omega)).mono ?_
  rintro e w3 ⟨rfl, t3, hp3⟩
  rw [he1] at hp3
  go_wp2_with fail
  go_loopw [13] (fun i wr => ∃ (j : Nat) (tv' : Value), i = .int .i64 (j : Int) ∧ j ≤ Ts.length ∧ midB (zs ++ [32, 123, 10] ++ (Ts.take j).flatten) = false ∧ Pr K w W wr sv tv' (zs ++ [32, 123, 10] ++ (Ts.take j).flatten)) (fun i _ => Ts.length - (intOf i).toNat)
  case atStart => exact ⟨0, t3, rfl, Nat.zero_le _, hm3, by rw [List.take_zero, List.flatten_nil, List.append_nil]; exact hp3⟩
  case round =>
    obtain ⟨j, tv', rfl, hj, hmj, hp⟩ := hrel
    by_cases hlt : j < Ts.length
    · obtain ⟨_, g, off, cap', k, n', tk', tn', x0, x1, x2, x3, y0, z0, y1, z1, y2, z2, y3, z3, e1, hgs, hcl, X, hX, hcall⟩ := HKs.out j hlt
      cases e1
      obtain ⟨d0, d1, d2, d3, d4, d5, d6, d7⟩ := hcl _ hp.lat
      have hfs := flat_step Ts j hlt
      have hfl := flat_pre Ts (j + 1)
      have hlj : (zs ++ [32, 123, 10] ++ (Ts.take j).flatten).length = zs.length + 3 + (Ts.take j).flatten.length := by rw [List.length_append, hlz]
      have i1 : (j : Int) < (Ts.length : Int) := by omega
      have hXl : X.length + 1 = Ts[j].length := by rw [← hX]; simp
      have he : zs ++ [32, 123, 10] ++ (Ts.take j).flatten ++ X ++ [10] = zs ++ [32, 123, 10] ++ (Ts.take (j + 1)).flatten := by rw [hfs, ← hX]; simp only [List.append_assoc]
      have hmn : midB (zs ++ [32, 123, 10] ++ (Ts.take (j + 1)).flatten) = false := by rw [← he]; exact midB_line _
      rw [hfs, List.length_append] at hfl
      have hlx : (zs ++ [32, 123, 10] ++ (Ts.take j).flatten ++ X).length = zs.length + 3 + (Ts.take j).flatten.length + X.length := by rw [List.length_append, hlj]
      have hpb := hp.alloc (.cells #[.int .i64 k, .int .i64 n', .int .i64 tk', .int .i64 tn', .slice x0 y0 z0, .slice x1 y1 z1, .slice x2 y2 z2, .slice x3 y3 z3] 104)
      clear hcl hfs hX
      go_wp2_with fail
      refine (hcall K w _ tv' _ hpb hmj (by omega)).mono ?_
      rintro e w4 ⟨rfl, t4, hp4⟩
      go_wp2_with fail
      refine (endLine_any K w W w4 sv t4 _ hp4 (by omega)).mono ?_
      rintro e w5 ⟨rfl, t5, hp5⟩
      rw [he] at hp5
      go_wp2_with fail
      go_roundw
      case rel => exact ⟨j + 1, _, by go_num, by omega, hmn, hp5⟩
      case measure => simp [intOf]; omega
    · have hje : j = Ts.length := by omega
      have i1 : ¬ (j : Int) < (Ts.length : Int) := by omega
      rw [hje, List.take_length] at hp hmj
      have hlj : (zs ++ [32, 123, 10] ++ Ts.flatten).length = zs.length + 3 + Ts.flatten.length := by rw [List.length_append, hlz]
      have he : atL (zs ++ [32, 123, 10] ++ Ts.flatten) [32, 125] = zs ++ [32, 123, 10] ++ Ts.flatten ++ [125] := by rw [atL_new hmj]; rfl
      have hlc : ([32, 125] : List Int).length = 2 := rfl
      go_wp2_with fail
      refine (put1 K w W wr sv tv' _ ⟨#[125]⟩ [32, 125] rfl hp (by decide) (by omega) _ rfl).mono ?_
      rintro e w4 ⟨rfl, t4, hp4⟩
      rw [he] at hp4
      go_wp2_with fail
      refine bodyPost_end (results_none rfl _ _ _) rfl ?_
      exact HF.out _ _ hp4
end Go.Proofs.YtbigjeejmacjcaaGreatDoor
/- The program's printer: statements, kind by kind. -/
namespace Go.Proofs.YtbigjeejmacjcaaGreatDoor
open Go.RowKit Go.Lib
theorem Good.blk {X : List Int} (h : Good X) (t : List Int) : Good (X ++ blockL t) := ⟨by have := h.two; rw [List.length_append]; omega, midB_append X (midB_append ([32, 123, 10] ++ t) (t := [125]) rfl)⟩
set_option maxRecDepth 20000 in
set_option maxHeartbeats 4000000 in
theorem stmt_0 (K : Nat) (A W w : World) (sv tv : Value) (v0 : Value) (x1 x2 x3 : Option Addr) (y1 z1 y2 z2 y3 z3 : Nat) (zs : List Int) (n tk tn : Int) (h : Pr K A W w sv tv zs) (l : List Sc) (hl : RdL W 2 sv (Sc.dats l)) (hnm : NamesTok l) (ht : TyFine l tk tn) (nm : List Int) (hv0 : RdN W v0 nm) (hm : midB nm = true) (hn1 : 1 ≤ nm.length) (hb : zs.length + ([32, 118, 97, 114, 32] ++ nm ++ sayTy l tk tn ++ [32, 59]).length ≤ 1000000) :
    Calls Tryz.prog 65 #[.pointer (some ⟨K, 0, none⟩), .agg #[.int .i64 0, .int .i64 n, .int .i64 tk, .int .i64 tn, v0, .slice x1 y1 z1, .slice x2 y2 z2, .slice x3 y3 z3]] w (PrP K A W sv (atL zs ([32, 118, 97, 114, 32] ++ nm ++ sayTy l tk tn ++ [32, 59]))) := by
  obtain ⟨s, g0, off0, q, rfl, _, hs, hcv⟩ := nm_string hv0 hn1
  have hs1 : midB (bytesOf s) = true := by rw [hs]; exact hm
  have hG1 : Good ([32, 118, 97, 114, 32] ++ nm) := ⟨by simp, midB_append _ hm⟩
  have hG2 : Good ([32, 118, 97, 114, 32] ++ nm ++ sayTy l tk tn) := by
    rcases ty_good hnm ht with e | e
    · rw [e, List.append_nil]; exact hG1
    · exact hG1.app e
  obtain ⟨w1, hw1⟩ : ∃ w1, Hid (w1 = w.alloc (.cells #[.int .i64 0, .int .i64 n, .int .i64 tk, .int .i64 tn, .slice (some ⟨g0, off0, none⟩) nm.length q, .slice x1 y1 z1, .slice x2 y2 z2, .slice x3 y3 z3] 104)) := ⟨_, rfl⟩
  have hK := lt_of_some h.row
  have hA : Pr K A W w1 sv tv zs := by rw [hw1.out]; exact h.alloc _
  have hbx : BxT w.heap.size w1 [.int .i64 0, .int .i64 n, .int .i64 tk, .int .i64 tn, .slice (some ⟨g0, off0, none⟩) nm.length q, .slice x1 y1 z1, .slice x2 y2 z2, .slice x3 y3 z3] 104 := by rw [hw1.out]; exact BxT.new w _ _
  have HC : Hid (∀ i u, [Value.int .i64 0, .int .i64 n, .int .i64 tk, .int .i64 tn, .slice (some ⟨g0, off0, none⟩) nm.length q, .slice x1 y1 z1, .slice x2 y2 z2, .slice x3 y3 z3][i]? = some u → ∀ w', KP K w1 w' → w'.cell? ⟨w.heap.size, i, none⟩ = some u) := fun i u hu => hbx.kp (by decide) (by omega) i u hu
  have hsz : Hid (w.heap.size + 1 = w1.heap.size) := by rw [hw1.out]; show _ = _; simp
  have hA1 := hA.from
  obtain ⟨T, hT⟩ := hid_ex (atL zs ([32, 118, 97, 114, 32] ++ nm ++ sayTy l tk tn ++ [32, 59]))
  have HF : Hid (∀ w' t', Pr K w1 W w' sv t' T → PrP K A W sv T (.returned (.tuple #[])) w') := fun w' t' hp => ⟨rfl, t', hp.back hA.kp⟩
  rw [← hT.out]
  have cv := hcv w1 hA.lat
  rw [hw1.out] at cv
  have hl1 := atL_len zs ([32, 118, 97, 114, 32] ++ nm)
  have hl2 := atL_len zs ([32, 118, 97, 114, 32] ++ nm ++ sayTy l tk tn)
  have hla : ([32, 118, 97, 114, 32] : List Int).length = 5 := rfl
  have hlc : ([32, 59] : List Int).length = 2 := rfl
  rw [List.length_append] at hl1
  rw [List.length_append, List.length_append] at hl2
  rw [List.length_append, List.length_append, List.length_append] at hb
  have hat1 : atL (atL zs ([32, 118, 97, 114, 32] ++ nm)) (sayTy l tk tn) = atL zs ([32, 118, 97, 114, 32] ++ nm ++ sayTy l tk tn) := atL_at zs hG1 _
  have hat : atL (atL zs ([32, 118, 97, 114, 32] ++ nm ++ sayTy l tk tn)) [32, 59] = T := by rw [hT.out]; exact atL_at zs hG2 _
  clear hcv
  clear hbx hA
  go_enter Tryz.func65, Tryz.ntmps65
  go_wp2_with fail
  rw [← hw1.out]
  refine (put2 K w1 W w1 sv tv zs ⟨#[118, 97, 114]⟩ s ([32, 118, 97, 114, 32] ++ nm) (by rw [hs]; simp [spread, bytesOf]) hA1 (by decide) hs1 (by rw [List.length_append]; omega) _ hsz.out).mono ?_
  rintro e w2 ⟨rfl, t2, hp2⟩
  have q2 := HC.out 2 _ rfl _ hp2.kp
  have q3 := HC.out 3 _ rfl _ hp2.kp
  go_wp2_with fail
  refine (pty_any K w1 W w2 sv t2 _ l tk tn hp2 hl hnm ht (by omega)).mono ?_
  rintro e w3 ⟨rfl, t3, hp3⟩
  rw [hat1] at hp3
  go_wp2_with fail
  refine (put1 K w1 W w3 sv t3 _ ⟨#[59]⟩ [32, 59] rfl hp3 (by decide) (by omega) _ rfl).mono ?_
  rintro e wE ⟨rfl, tE, hpE⟩
  rw [hat] at hpE
  go_wp2_with fail
  refine bodyPost_end (results_none rfl _ _ _) rfl ?_
  exact HF.out _ _ hpE
set_option maxRecDepth 20000 in
set_option maxHeartbeats 4000000 in
theorem stmt_1 (K : Nat) (A W w : World) (sv tv : Value)  (x0 x1 x2 x3 : Option Addr) (y0 z0 y1 z1 y2 z2 y3 z3 : Nat) (zs : List Int) (n tk tn : Int) (h : Pr K A W w sv tv zs) (ts : List (List Int)) (hks : KidsP W sv (.slice x1 y1 z1) ts) (hts : ts.length ≤ 1000) (hne : ts ≠ []) (hb : zs.length + (joinG [61] ts ++ [32, 59]).length ≤ 1000000) :
    Calls Tryz.prog 65 #[.pointer (some ⟨K, 0, none⟩), .agg #[.int .i64 1, .int .i64 n, .int .i64 tk, .int .i64 tn, .slice x0 y0 z0, .slice x1 y1 z1, .slice x2 y2 z2, .slice x3 y3 z3]] w (PrP K A W sv (atL zs (joinG [61] ts ++ [32, 59]))) := by
  have hG : Good (joinG [61] ts) := by
    obtain ⟨_, _, _, hg, _⟩ := hks
    have := joinG_good [61] rfl ts hg ts.length (by cases ts with | nil => exact absurd rfl hne | cons a r => simp) (Nat.le_refl _)
    rwa [List.take_length] at this
  obtain ⟨w1, hw1⟩ : ∃ w1, Hid (w1 = w.alloc (.cells #[.int .i64 1, .int .i64 n, .int .i64 tk, .int .i64 tn, .slice x0 y0 z0, .slice x1 y1 z1, .slice x2 y2 z2, .slice x3 y3 z3] 104)) := ⟨_, rfl⟩
  have hK := lt_of_some h.row
  have hA : Pr K A W w1 sv tv zs := by rw [hw1.out]; exact h.alloc _
  have hbx : BxT w.heap.size w1 [.int .i64 1, .int .i64 n, .int .i64 tk, .int .i64 tn, .slice x0 y0 z0, .slice x1 y1 z1, .slice x2 y2 z2, .slice x3 y3 z3] 104 := by rw [hw1.out]; exact BxT.new w _ _
  have HC : Hid (∀ i u, [Value.int .i64 1, .int .i64 n, .int .i64 tk, .int .i64 tn, .slice x0 y0 z0, .slice x1 y1 z1, .slice x2 y2 z2, .slice x3 y3 z3][i]? = some u → ∀ w', KP K w1 w' → w'.cell? ⟨w.heap.size, i, none⟩ = some u) := fun i u hu => hbx.kp (by decide) (by omega) i u hu
  have hsz : Hid (w.heap.size + 1 = w1.heap.size) := by rw [hw1.out]; show _ = _; simp
  have hA1 := hA.from
  obtain ⟨T, hT⟩ := hid_ex (atL zs (joinG [61] ts ++ [32, 59]))
  have HF : Hid (∀ w' t', Pr K w1 W w' sv t' T → PrP K A W sv T (.returned (.tuple #[])) w') := fun w' t' hp => ⟨rfl, t', hp.back hA.kp⟩
  rw [← hT.out]
  have hl1 := atL_len zs (joinG [61] ts)
  have hlc : ([32, 59] : List Int).length = 2 := rfl
  rw [List.length_append] at hb
  have hat : atL (atL zs (joinG [61] ts)) [32, 59] = T := by rw [hT.out]; exact atL_at zs hG _
  clear hbx hA
  go_enter Tryz.func65, Tryz.ntmps65
  go_wp2_with fail
  rw [← hw1.out]
  refine (exprs_of K w1 W w1 sv tv _ zs [61] ⟨#[61]⟩ ts hA1 hks rfl rfl hts (by omega)).mono ?_
  rintro e w2 ⟨rfl, t2, hp2⟩
  go_wp2_with fail
  refine (put1 K w1 W w2 sv t2 _ ⟨#[59]⟩ [32, 59] rfl hp2 (by decide) (by omega) _ rfl).mono ?_
  rintro e wE ⟨rfl, tE, hpE⟩
  rw [hat] at hpE
  go_wp2_with fail
  refine bodyPost_end (results_none rfl _ _ _) rfl ?_
  exact HF.out _ _ hpE
set_option maxRecDepth 20000 in
set_option maxHeartbeats 4000000 in
theorem stmt_2 (K : Nat) (A W w : World) (sv tv : Value) (v1 : Value) (x0 x2 x3 : Option Addr) (y0 z0 y2 z2 y3 z3 : Nat) (zs : List Int) (n tk tn : Int) (h : Pr K A W w sv tv zs) (m : Nat) (t0 tb te : List Int) (hk0 : KidP W sv v1 m 0 t0) (hg0 : Good t0) (hB : BlkP W sv (.slice x2 y2 z2) tb) (hE : BlkP W sv (.slice x3 y3 z3) te) (hb : zs.length + ([32, 105, 102] ++ t0 ++ blockL tb ++ [32, 101, 108, 115, 101] ++ blockL te).length ≤ 999999) :
    Calls Tryz.prog 65 #[.pointer (some ⟨K, 0, none⟩), .agg #[.int .i64 2, .int .i64 n, .int .i64 tk, .int .i64 tn, .slice x0 y0 z0, v1, .slice x2 y2 z2, .slice x3 y3 z3]] w (PrP K A W sv (atL zs ([32, 105, 102] ++ t0 ++ blockL tb ++ [32, 101, 108, 115, 101] ++ blockL te))) := by
  have hG0 : Good [32, 105, 102] := ⟨by decide, by decide⟩
  have hG1 := hG0.app hg0
  have hG2 := hG1.blk tb
  have hG3 : Good ([32, 105, 102] ++ t0 ++ blockL tb ++ [32, 101, 108, 115, 101]) := hG2.app ⟨by decide, by decide⟩
  obtain ⟨hm0, g, off, cap1, k0, n0, tk0, tn0, xx0, xx1, yy0, zz0, yy1, zz1, rfl, hgW, hcl, hcall⟩ := hk0
  have hm0' : (0 : Int) < (m : Int) := by omega
  obtain ⟨w1, hw1⟩ : ∃ w1, Hid (w1 = w.alloc (.cells #[.int .i64 2, .int .i64 n, .int .i64 tk, .int .i64 tn, .slice x0 y0 z0, .slice (some ⟨g, off, none⟩) m cap1, .slice x2 y2 z2, .slice x3 y3 z3] 104)) := ⟨_, rfl⟩
  have hK := lt_of_some h.row
  have hA : Pr K A W w1 sv tv zs := by rw [hw1.out]; exact h.alloc _
  have hbx : BxT w.heap.size w1 [.int .i64 2, .int .i64 n, .int .i64 tk, .int .i64 tn, .slice x0 y0 z0, .slice (some ⟨g, off, none⟩) m cap1, .slice x2 y2 z2, .slice x3 y3 z3] 104 := by rw [hw1.out]; exact BxT.new w _ _
  have HC : Hid (∀ i u, [Value.int .i64 2, .int .i64 n, .int .i64 tk, .int .i64 tn, .slice x0 y0 z0, .slice (some ⟨g, off, none⟩) m cap1, .slice x2 y2 z2, .slice x3 y3 z3][i]? = some u → ∀ w', KP K w1 w' → w'.cell? ⟨w.heap.size, i, none⟩ = some u) := fun i u hu => hbx.kp (by decide) (by omega) i u hu
  have hsz : Hid (w.heap.size + 1 = w1.heap.size) := by rw [hw1.out]; show _ = _; simp
  have hA1 := hA.from
  obtain ⟨T, hT⟩ := hid_ex (atL zs ([32, 105, 102] ++ t0 ++ blockL tb ++ [32, 101, 108, 115, 101] ++ blockL te))
  have HF : Hid (∀ w' t', Pr K w1 W w' sv t' T → PrP K A W sv T (.returned (.tuple #[])) w') := fun w' t' hp => ⟨rfl, t', hp.back hA.kp⟩
  rw [← hT.out]
  have hl0 := atL_len zs [32, 105, 102]
  have hl1 := atL_len zs ([32, 105, 102] ++ t0)
  have hl2 := atL_len zs ([32, 105, 102] ++ t0 ++ blockL tb)
  have hl3 := atL_len zs ([32, 105, 102] ++ t0 ++ blockL tb ++ [32, 101, 108, 115, 101])
  have hla : ([32, 105, 102] : List Int).length = 3 := rfl
  have hlc : ([32, 101, 108, 115, 101] : List Int).length = 5 := rfl
  simp only [List.length_append] at hb hl1 hl2 hl3
  rw [hla] at hb hl0 hl1 hl2 hl3
  rw [hlc] at hb hl3
  have hat1 : atL (atL zs [32, 105, 102]) t0 = atL zs ([32, 105, 102] ++ t0) := atL_at zs hG0 _
  have hat2 : atL zs ([32, 105, 102] ++ t0) ++ blockL tb = atL zs ([32, 105, 102] ++ t0 ++ blockL tb) := by rw [← atL_at zs hG1, atL_mid (midB_at zs hG1)]
  have hat3 : atL (atL zs ([32, 105, 102] ++ t0 ++ blockL tb)) [32, 101, 108, 115, 101] = atL zs ([32, 105, 102] ++ t0 ++ blockL tb ++ [32, 101, 108, 115, 101]) := atL_at zs hG2 _
  have hat : atL zs ([32, 105, 102] ++ t0 ++ blockL tb ++ [32, 101, 108, 115, 101]) ++ blockL te = T := by rw [hT.out, ← atL_at zs hG3, atL_mid (midB_at zs hG3)]
  obtain ⟨_, _, _, _, hB⟩ := hB
  obtain ⟨_, _, _, _, hE⟩ := hE
  clear hbx hA
  go_enter Tryz.func65, Tryz.ntmps65
  go_wp2_with fail
  rw [← hw1.out]
  refine (put1 K w1 W w1 sv tv zs ⟨#[105, 102]⟩ [32, 105, 102] rfl hA1 (by decide) (by omega) _ hsz.out).mono ?_
  rintro e w2 ⟨rfl, t2, hp2⟩
  obtain ⟨c0, c1, c2, c3, c4, c5⟩ := hcl w2 hp2.lat
  rw [Nat.zero_mul, Nat.add_zero] at c0 c1 c2 c3 c4 c5
  have hgw : g < w2.heap.size := Nat.lt_of_lt_of_le hgW hp2.lat.size
  have q5 := HC.out 5 _ rfl _ hp2.kp
  go_wp2_with fail
  refine (hcall K w1 w2 t2 _ hp2 (by omega)).mono ?_
  rintro e w3 ⟨rfl, t3, hp3⟩
  rw [hat1] at hp3
  have q6 := HC.out 6 _ rfl _ hp3.kp
  go_wp2_with fail
  refine (hB K w1 w3 t3 _ hp3 (midB_at zs hG1) (by omega)).mono ?_
  rintro e w4 ⟨rfl, t4, hp4⟩
  rw [hat2] at hp4
  go_wp2_with fail
  refine (put1 K w1 W w4 sv t4 _ ⟨#[101, 108, 115, 101]⟩ [32, 101, 108, 115, 101] rfl hp4 (by decide) (by omega) _ rfl).mono ?_
  rintro e w5 ⟨rfl, t5, hp5⟩
  rw [hat3] at hp5
  have q7 := HC.out 7 _ rfl _ hp5.kp
  go_wp2_with fail
  refine (hE K w1 w5 t5 _ hp5 (midB_at zs hG3) (by omega)).mono ?_
  rintro e wE ⟨rfl, tE, hpE⟩
  rw [hat] at hpE
  go_wp2_with fail
  refine bodyPost_end (results_none rfl _ _ _) rfl ?_
  exact HF.out _ _ hpE
set_option maxRecDepth 20000 in
set_option maxHeartbeats 4000000 in
theorem stmt_3 (K : Nat) (A W w : World) (sv tv : Value) (v1 : Value) (x0 x2 x3 : Option Addr) (y0 z0 y2 z2 y3 z3 : Nat) (zs : List Int) (n tk tn : Int) (h : Pr K A W w sv tv zs) (m : Nat) (t0 tb : List Int) (hk0 : KidP W sv v1 m 0 t0) (hg0 : Good t0) (hB : BlkP W sv (.slice x2 y2 z2) tb) (hb : zs.length + ([32, 102, 111, 114] ++ t0 ++ blockL tb).length ≤ 999999) :
    Calls Tryz.prog 65 #[.pointer (some ⟨K, 0, none⟩), .agg #[.int .i64 3, .int .i64 n, .int .i64 tk, .int .i64 tn, .slice x0 y0 z0, v1, .slice x2 y2 z2, .slice x3 y3 z3]] w (PrP K A W sv (atL zs ([32, 102, 111, 114] ++ t0 ++ blockL tb))) := by
  have hG0 : Good [32, 102, 111, 114] := ⟨by decide, by decide⟩
  have hG1 := hG0.app hg0
  obtain ⟨hm0, g, off, cap1, k0, n0, tk0, tn0, xx0, xx1, yy0, zz0, yy1, zz1, rfl, hgW, hcl, hcall⟩ := hk0
  have hm0' : (0 : Int) < (m : Int) := by omega
  obtain ⟨w1, hw1⟩ : ∃ w1, Hid (w1 = w.alloc (.cells #[.int .i64 3, .int .i64 n, .int .i64 tk, .int .i64 tn, .slice x0 y0 z0, .slice (some ⟨g, off, none⟩) m cap1, .slice x2 y2 z2, .slice x3 y3 z3] 104)) := ⟨_, rfl⟩
  have hK := lt_of_some h.row
  have hA : Pr K A W w1 sv tv zs := by rw [hw1.out]; exact h.alloc _
  have hbx : BxT w.heap.size w1 [.int .i64 3, .int .i64 n, .int .i64 tk, .int .i64 tn, .slice x0 y0 z0, .slice (some ⟨g, off, none⟩) m cap1, .slice x2 y2 z2, .slice x3 y3 z3] 104 := by rw [hw1.out]; exact BxT.new w _ _
  have HC : Hid (∀ i u, [Value.int .i64 3, .int .i64 n, .int .i64 tk, .int .i64 tn, .slice x0 y0 z0, .slice (some ⟨g, off, none⟩) m cap1, .slice x2 y2 z2, .slice x3 y3 z3][i]? = some u → ∀ w', KP K w1 w' → w'.cell? ⟨w.heap.size, i, none⟩ = some u) := fun i u hu => hbx.kp (by decide) (by omega) i u hu
  have hsz : Hid (w.heap.size + 1 = w1.heap.size) := by rw [hw1.out]; show _ = _; simp
  have hA1 := hA.from
  obtain ⟨T, hT⟩ := hid_ex (atL zs ([32, 102, 111, 114] ++ t0 ++ blockL tb))
  have HF : Hid (∀ w' t', Pr K w1 W w' sv t' T → PrP K A W sv T (.returned (.tuple #[])) w') := fun w' t' hp => ⟨rfl, t', hp.back hA.kp⟩
  rw [← hT.out]
  have hl0 := atL_len zs [32, 102, 111, 114]
  have hl1 := atL_len zs ([32, 102, 111, 114] ++ t0)
  have hla : ([32, 102, 111, 114] : List Int).length = 4 := rfl
  simp only [List.length_append] at hb hl1
  rw [hla] at hb hl0 hl1
  have hat1 : atL (atL zs [32, 102, 111, 114]) t0 = atL zs ([32, 102, 111, 114] ++ t0) := atL_at zs hG0 _
  have hat : atL zs ([32, 102, 111, 114] ++ t0) ++ blockL tb = T := by rw [hT.out, ← atL_at zs hG1, atL_mid (midB_at zs hG1)]
  obtain ⟨_, _, _, _, hB⟩ := hB
  clear hbx hA
  go_enter Tryz.func65, Tryz.ntmps65
  go_wp2_with fail
  rw [← hw1.out]
  refine (put1 K w1 W w1 sv tv zs ⟨#[102, 111, 114]⟩ [32, 102, 111, 114] rfl hA1 (by decide) (by omega) _ hsz.out).mono ?_
  rintro e w2 ⟨rfl, t2, hp2⟩
  obtain ⟨c0, c1, c2, c3, c4, c5⟩ := hcl w2 hp2.lat
  rw [Nat.zero_mul, Nat.add_zero] at c0 c1 c2 c3 c4 c5
  have hgw : g < w2.heap.size := Nat.lt_of_lt_of_le hgW hp2.lat.size
  have q5 := HC.out 5 _ rfl _ hp2.kp
  go_wp2_with fail
  refine (hcall K w1 w2 t2 _ hp2 (by omega)).mono ?_
  rintro e w3 ⟨rfl, t3, hp3⟩
  rw [hat1] at hp3
  have q6 := HC.out 6 _ rfl _ hp3.kp
  go_wp2_with fail
  refine (hB K w1 w3 t3 _ hp3 (midB_at zs hG1) (by omega)).mono ?_
  rintro e wE ⟨rfl, tE, hpE⟩
  rw [hat] at hpE
  go_wp2_with fail
  refine bodyPost_end (results_none rfl _ _ _) rfl ?_
  exact HF.out _ _ hpE
set_option maxRecDepth 20000 in
set_option maxHeartbeats 4000000 in
theorem stmt_4 (K : Nat) (A W w : World) (sv tv : Value)  (x0 x1 x2 x3 : Option Addr) (y0 z0 y1 z1 y2 z2 y3 z3 : Nat) (zs : List Int) (n tk tn : Int) (h : Pr K A W w sv tv zs) (ts : List (List Int)) (hks : KidsP W sv (.slice x1 y1 z1) ts) (hts : ts.length ≤ 1000) (hb : zs.length + ((32 :: [114, 101, 116, 117, 114, 110]) ++ joinL ts ++ (32 :: [59])).length ≤ 1000000) :
    Calls Tryz.prog 65 #[.pointer (some ⟨K, 0, none⟩), .agg #[.int .i64 4, .int .i64 n, .int .i64 tk, .int .i64 tn, .slice x0 y0 z0, .slice x1 y1 z1, .slice x2 y2 z2, .slice x3 y3 z3]] w (PrP K A W sv (atL zs ((32 :: [114, 101, 116, 117, 114, 110]) ++ joinL ts ++ (32 :: [59])))) := by
  obtain ⟨w1, hw1⟩ : ∃ w1, Hid (w1 = w.alloc (.cells #[.int .i64 4, .int .i64 n, .int .i64 tk, .int .i64 tn, .slice x0 y0 z0, .slice x1 y1 z1, .slice x2 y2 z2, .slice x3 y3 z3] 104)) := ⟨_, rfl⟩
  have hK := lt_of_some h.row
  have hA : Pr K A W w1 sv tv zs := by rw [hw1.out]; exact h.alloc _
  have hbx : BxT w.heap.size w1 [.int .i64 4, .int .i64 n, .int .i64 tk, .int .i64 tn, .slice x0 y0 z0, .slice x1 y1 z1, .slice x2 y2 z2, .slice x3 y3 z3] 104 := by rw [hw1.out]; exact BxT.new w _ _
  have HC : Hid (∀ i u, [Value.int .i64 4, .int .i64 n, .int .i64 tk, .int .i64 tn, .slice x0 y0 z0, .slice x1 y1 z1, .slice x2 y2 z2, .slice x3 y3 z3][i]? = some u → ∀ w', KP K w1 w' → w'.cell? ⟨w.heap.size, i, none⟩ = some u) := fun i u hu => hbx.kp (by decide) (by omega) i u hu
  have hsz : Hid (w.heap.size + 1 = w1.heap.size) := by rw [hw1.out]; show _ = _; simp
  have hA1 := hA.from
  obtain ⟨T, hT⟩ := hid_ex (atL zs ((32 :: [114, 101, 116, 117, 114, 110]) ++ joinL ts ++ (32 :: [59])))
  have HF : Hid (∀ w' t', Pr K w1 W w' sv t' T → PrP K A W sv T (.returned (.tuple #[])) w') := fun w' t' hp => ⟨rfl, t', hp.back hA.kp⟩
  rw [← hT.out]
  clear hbx hA
  go_enter Tryz.func65, Tryz.ntmps65
  go_wp2_with fail
  rw [← hw1.out]
  refine (within_of K w1 W w1 sv tv _ zs [114, 101, 116, 117, 114, 110] [59] ⟨#[114, 101, 116, 117, 114, 110]⟩ ⟨#[59]⟩ ts hA1 hks rfl rfl rfl rfl hts hb).mono ?_
  rintro e wE ⟨rfl, tE, hpE⟩
  rw [← hT.out] at hpE
  go_wp2_with fail
  refine bodyPost_end (results_none rfl _ _ _) rfl ?_
  exact HF.out _ _ hpE
set_option maxRecDepth 20000 in
set_option maxHeartbeats 4000000 in
theorem stmt_5 (K : Nat) (A W w : World) (sv tv : Value)  (x0 x1 x2 x3 : Option Addr) (y0 z0 y1 z1 y2 z2 y3 z3 : Nat) (zs : List Int) (n tk tn : Int) (h : Pr K A W w sv tv zs) (ts : List (List Int)) (hks : KidsP W sv (.slice x1 y1 z1) ts) (hts : ts.length ≤ 1000) (hb : zs.length + ((32 :: [112, 114, 105, 110, 116]) ++ joinL ts ++ (32 :: [59])).length ≤ 1000000) :
    Calls Tryz.prog 65 #[.pointer (some ⟨K, 0, none⟩), .agg #[.int .i64 5, .int .i64 n, .int .i64 tk, .int .i64 tn, .slice x0 y0 z0, .slice x1 y1 z1, .slice x2 y2 z2, .slice x3 y3 z3]] w (PrP K A W sv (atL zs ((32 :: [112, 114, 105, 110, 116]) ++ joinL ts ++ (32 :: [59])))) := by
  obtain ⟨w1, hw1⟩ : ∃ w1, Hid (w1 = w.alloc (.cells #[.int .i64 5, .int .i64 n, .int .i64 tk, .int .i64 tn, .slice x0 y0 z0, .slice x1 y1 z1, .slice x2 y2 z2, .slice x3 y3 z3] 104)) := ⟨_, rfl⟩
  have hK := lt_of_some h.row
  have hA : Pr K A W w1 sv tv zs := by rw [hw1.out]; exact h.alloc _
  have hbx : BxT w.heap.size w1 [.int .i64 5, .int .i64 n, .int .i64 tk, .int .i64 tn, .slice x0 y0 z0, .slice x1 y1 z1, .slice x2 y2 z2, .slice x3 y3 z3] 104 := by rw [hw1.out]; exact BxT.new w _ _
  have HC : Hid (∀ i u, [Value.int .i64 5, .int .i64 n, .int .i64 tk, .int .i64 tn, .slice x0 y0 z0, .slice x1 y1 z1, .slice x2 y2 z2, .slice x3 y3 z3][i]? = some u → ∀ w', KP K w1 w' → w'.cell? ⟨w.heap.size, i, none⟩ = some u) := fun i u hu => hbx.kp (by decide) (by omega) i u hu
  have hsz : Hid (w.heap.size + 1 = w1.heap.size) := by rw [hw1.out]; show _ = _; simp
  have hA1 := hA.from
  obtain ⟨T, hT⟩ := hid_ex (atL zs ((32 :: [112, 114, 105, 110, 116]) ++ joinL ts ++ (32 :: [59])))
  have HF : Hid (∀ w' t', Pr K w1 W w' sv t' T → PrP K A W sv T (.returned (.tuple #[])) w') := fun w' t' hp => ⟨rfl, t', hp.back hA.kp⟩
  rw [← hT.out]
  clear hbx hA
  go_enter Tryz.func65, Tryz.ntmps65
  go_wp2_with fail
  rw [← hw1.out]
  refine (within_of K w1 W w1 sv tv _ zs [112, 114, 105, 110, 116] [59] ⟨#[112, 114, 105, 110, 116]⟩ ⟨#[59]⟩ ts hA1 hks rfl rfl rfl rfl hts hb).mono ?_
  rintro e wE ⟨rfl, tE, hpE⟩
  rw [← hT.out] at hpE
  go_wp2_with fail
  refine bodyPost_end (results_none rfl _ _ _) rfl ?_
  exact HF.out _ _ hpE
set_option maxRecDepth 20000 in
set_option maxHeartbeats 4000000 in
theorem stmt_6 (K : Nat) (A W w : World) (sv tv : Value)  (x0 x1 x2 x3 : Option Addr) (y0 z0 y1 z1 y2 z2 y3 z3 : Nat) (zs : List Int) (n tk tn : Int) (h : Pr K A W w sv tv zs) (ts : List (List Int)) (hks : KidsP W sv (.slice x1 y1 z1) ts) (hts : ts.length ≤ 1000) (hb : zs.length + ((32 :: [112, 97, 110, 105, 99]) ++ joinL ts ++ (32 :: [59])).length ≤ 1000000) :
    Calls Tryz.prog 65 #[.pointer (some ⟨K, 0, none⟩), .agg #[.int .i64 6, .int .i64 n, .int .i64 tk, .int .i64 tn, .slice x0 y0 z0, .slice x1 y1 z1, .slice x2 y2 z2, .slice x3 y3 z3]] w (PrP K A W sv (atL zs ((32 :: [112, 97, 110, 105, 99]) ++ joinL ts ++ (32 :: [59])))) := by
  obtain ⟨w1, hw1⟩ : ∃ w1, Hid (w1 = w.alloc (.cells #[.int .i64 6, .int .i64 n, .int .i64 tk, .int .i64 tn, .slice x0 y0 z0, .slice x1 y1 z1, .slice x2 y2 z2, .slice x3 y3 z3] 104)) := ⟨_, rfl⟩
  have hK := lt_of_some h.row
  have hA : Pr K A W w1 sv tv zs := by rw [hw1.out]; exact h.alloc _
  have hbx : BxT w.heap.size w1 [.int .i64 6, .int .i64 n, .int .i64 tk, .int .i64 tn, .slice x0 y0 z0, .slice x1 y1 z1, .slice x2 y2 z2, .slice x3 y3 z3] 104 := by rw [hw1.out]; exact BxT.new w _ _
  have HC : Hid (∀ i u, [Value.int .i64 6, .int .i64 n, .int .i64 tk, .int .i64 tn, .slice x0 y0 z0, .slice x1 y1 z1, .slice x2 y2 z2, .slice x3 y3 z3][i]? = some u → ∀ w', KP K w1 w' → w'.cell? ⟨w.heap.size, i, none⟩ = some u) := fun i u hu => hbx.kp (by decide) (by omega) i u hu
  have hsz : Hid (w.heap.size + 1 = w1.heap.size) := by rw [hw1.out]; show _ = _; simp
  have hA1 := hA.from
  obtain ⟨T, hT⟩ := hid_ex (atL zs ((32 :: [112, 97, 110, 105, 99]) ++ joinL ts ++ (32 :: [59])))
  have HF : Hid (∀ w' t', Pr K w1 W w' sv t' T → PrP K A W sv T (.returned (.tuple #[])) w') := fun w' t' hp => ⟨rfl, t', hp.back hA.kp⟩
  rw [← hT.out]
  clear hbx hA
  go_enter Tryz.func65, Tryz.ntmps65
  go_wp2_with fail
  rw [← hw1.out]
  refine (within_of K w1 W w1 sv tv _ zs [112, 97, 110, 105, 99] [59] ⟨#[112, 97, 110, 105, 99]⟩ ⟨#[59]⟩ ts hA1 hks rfl rfl rfl rfl hts hb).mono ?_
  rintro e wE ⟨rfl, tE, hpE⟩
  rw [← hT.out] at hpE
  go_wp2_with fail
  refine bodyPost_end (results_none rfl _ _ _) rfl ?_
  exact HF.out _ _ hpE
set_option maxRecDepth 20000 in
set_option maxHeartbeats 4000000 in
theorem stmt_7 (K : Nat) (A W w : World) (sv tv : Value)  (x0 x1 x2 x3 : Option Addr) (y0 z0 y1 z1 y2 z2 y3 z3 : Nat) (zs : List Int) (n tk tn : Int) (h : Pr K A W w sv tv zs) (ts : List (List Int)) (hks : KidsP W sv (.slice x1 y1 z1) ts) (hts : ts.length ≤ 1000) (hb : zs.length + ((32 :: [100, 111]) ++ joinL ts ++ (32 :: [59])).length ≤ 1000000) :
    Calls Tryz.prog 65 #[.pointer (some ⟨K, 0, none⟩), .agg #[.int .i64 7, .int .i64 n, .int .i64 tk, .int .i64 tn, .slice x0 y0 z0, .slice x1 y1 z1, .slice x2 y2 z2, .slice x3 y3 z3]] w (PrP K A W sv (atL zs ((32 :: [100, 111]) ++ joinL ts ++ (32 :: [59])))) := by
  obtain ⟨w1, hw1⟩ : ∃ w1, Hid (w1 = w.alloc (.cells #[.int .i64 7, .int .i64 n, .int .i64 tk, .int .i64 tn, .slice x0 y0 z0, .slice x1 y1 z1, .slice x2 y2 z2, .slice x3 y3 z3] 104)) := ⟨_, rfl⟩
  have hK := lt_of_some h.row
  have hA : Pr K A W w1 sv tv zs := by rw [hw1.out]; exact h.alloc _
  have hbx : BxT w.heap.size w1 [.int .i64 7, .int .i64 n, .int .i64 tk, .int .i64 tn, .slice x0 y0 z0, .slice x1 y1 z1, .slice x2 y2 z2, .slice x3 y3 z3] 104 := by rw [hw1.out]; exact BxT.new w _ _
  have HC : Hid (∀ i u, [Value.int .i64 7, .int .i64 n, .int .i64 tk, .int .i64 tn, .slice x0 y0 z0, .slice x1 y1 z1, .slice x2 y2 z2, .slice x3 y3 z3][i]? = some u → ∀ w', KP K w1 w' → w'.cell? ⟨w.heap.size, i, none⟩ = some u) := fun i u hu => hbx.kp (by decide) (by omega) i u hu
  have hsz : Hid (w.heap.size + 1 = w1.heap.size) := by rw [hw1.out]; show _ = _; simp
  have hA1 := hA.from
  obtain ⟨T, hT⟩ := hid_ex (atL zs ((32 :: [100, 111]) ++ joinL ts ++ (32 :: [59])))
  have HF : Hid (∀ w' t', Pr K w1 W w' sv t' T → PrP K A W sv T (.returned (.tuple #[])) w') := fun w' t' hp => ⟨rfl, t', hp.back hA.kp⟩
  rw [← hT.out]
  clear hbx hA
  go_enter Tryz.func65, Tryz.ntmps65
  go_wp2_with fail
  rw [← hw1.out]
  refine (within_of K w1 W w1 sv tv _ zs [100, 111] [59] ⟨#[100, 111]⟩ ⟨#[59]⟩ ts hA1 hks rfl rfl rfl rfl hts hb).mono ?_
  rintro e wE ⟨rfl, tE, hpE⟩
  rw [← hT.out] at hpE
  go_wp2_with fail
  refine bodyPost_end (results_none rfl _ _ _) rfl ?_
  exact HF.out _ _ hpE
end Go.Proofs.YtbigjeejmacjcaaGreatDoor
/- The program's printer: every block. -/
namespace Go.Proofs.YtbigjeejmacjcaaGreatDoor
open Go.RowKit Go.Lib
structure StNodeI (l : List Sc) (k tk tn : Int) (name : List Int) (m : Nat) : Prop where
  base : StNode l k tk tn name m
  tok : k = 0 → midB name = true
  ty : k = 0 → TyFine l tk tn
  two : k = 1 → m = 2
  few : k = 4 → m ≤ 1
  one : k = 5 ∨ k = 6 ∨ k = 7 → m = 1
inductive St.FineI (l : List Sc) : St → Prop
  | mk {k n tk tn : Int} {name : List Int} {kids : List Ex} {body els : List St} (h : StNodeI l k tk tn name kids.length) (hm : body.length ≤ 1000000 ∧ els.length ≤ 1000000) (hk : ∀ x ∈ kids, Ex.FineI l x) (hb : ∀ x ∈ body, St.FineI l x) (he : ∀ x ∈ els, St.FineI l x) : St.FineI l (.mk k n tk tn name kids body els)
theorem St.FineI.fine {l : List Sc} : ∀ {x : St}, St.FineI l x → St.Fine l x := by
  intro x h
  induction h with
  | mk h hm hk hb he ib ie => exact .mk h.base hm (fun x hx => (hk x hx).fine) ib ie
theorem eight {k : Int} (h0 : 0 ≤ k) (h1 : k ≤ 7) : k = 0 ∨ k = 1 ∨ k = 2 ∨ k = 3 ∨ k = 4 ∨ k = 5 ∨ k = 6 ∨ k = 7 := by omega
theorem joinL_few {ts : List (List Int)} (h : ts.length ≤ 1) : joinL ts = kidL ts 0 := by
  match ts, h with
  | [], _ => rfl
  | [a], _ => simp [joinL, tailL, kidL]
  | a :: b :: r, h => simp at h
/-- The same at a line's beginning. -/
theorem new_line {K : Nat} {A W : World} {sv : Value} {zs : List Int} {T X : List Int} (hm : midB zs = false) (hX : T.drop 1 = X) {e : Ending} {w' : World} (h : PrP K A W sv (atL zs T) e w') : PrP K A W sv (zs ++ X) e w' := by
  rw [atL_new hm, hX] at h
  exact h
theorem blockP_all {W : World} {l : List Sc} {sv : Value} (hE : Env W) (hl : RdL W 2 sv (Sc.dats l)) (hnm : NamesTok l) (N : Nat) : ∀ (ss : List St) (v : Value), St.szs ss < N → ss.length ≤ 1000000 → (∀ x ∈ ss, St.FineI l x) → RdL W 8 v (St.dats ss) → BlkP W sv v (St.says l ss) := by
  induction N with
  | zero => intro ss v hx; exact absurd hx (Nat.not_lt_zero _)
  | succ N ih =>
    intro ss v hN hm hf hr
    obtain ⟨a1, cap1, rfl, hsl⟩ := St.slice hr
    rw [says_flat]
    have hlen : (ss.map (St.say l)).length = ss.length := List.length_map _
    have key := block_of W sv a1 cap1 (ss.map (St.say l)) (by rw [hlen]; omega) (fun j hj => ?_)
    · rw [hlen] at key; exact key
    have hj' : j < ss.length := by rw [hlen] at hj; exact hj
    rw [hlen, List.getElem_map]
    obtain ⟨g, off, v0, v1, v2, v3, rfl, hgs, c0, c1, c2, c3, c4, c5, c6, c7, r0, r1, r2, r3⟩ := St.elem hr j hj'
    have hsz := St.sz_at ss j hj'
    have hF := hf _ (List.getElem_mem hj')
    generalize ss[j] = x at *
    cases hF with
    | @mk k n tk tn name kids body els h hmb hk hb he =>
    replace r0 : RdN W v0 name := r0
    replace r1 : RdL W 6 v1 (Ex.dats kids) := r1
    replace r2 : RdL W 8 v2 (St.dats body) := r2
    replace r3 : RdL W 8 v3 (St.dats els) := r3
    rw [St.sz] at hsz
    have hB := ih body v2 (by omega) hmb.1 hb r2
    have hL := ih els v3 (by omega) hmb.2 he r3
    obtain ⟨y0, t0, rfl, _⟩ := r0.slice
    obtain ⟨y1, t1, rfl, _⟩ := Ex.slice r1
    obtain ⟨y2, t2, rfl, _⟩ := St.slice r2
    obtain ⟨y3, t3, rfl, _⟩ := St.slice r3
    have hKc : ∀ (i : Nat) (hi : i < kids.length), ExprC W sv l kids[i] := fun i hi => expr_any hE hl hnm kids[i] (hk _ (List.getElem_mem hi))
    have hK : ∀ (i : Nat) (hi : i < kids.length), KidP W sv (.slice y1 kids.length t1) kids.length i (Ex.say l kids[i]) := fun i hi => kidP_of r1 i hi rfl (hKc i hi)
    have hKs : KidsP W sv (.slice y1 kids.length t1) (Ex.says l kids) := kidsP_of hnm r1 hk hKc
    have hKg : ∀ (i : Nat) (hi : i < kids.length), Good (Ex.say l kids[i]) := fun i hi => say_good hnm (hk _ (List.getElem_mem hi))
    have hml : (Ex.says l kids).length = kids.length := Ex.says_len l kids
    refine ⟨hj', g, off, cap1, k, n, tk, tn, y0, y1, y2, y3, name.length, t0, kids.length, t1, body.length, t2, els.length, t3, rfl, hgs, fun w' hw => ?_, ?_⟩
    · exact ⟨by rw [hw.cell (p := ⟨g, off + j * 8, none⟩) hgs]; exact c0, by rw [hw.cell (p := ⟨g, off + j * 8 + 1, none⟩) hgs]; exact c1, by rw [hw.cell (p := ⟨g, off + j * 8 + 2, none⟩) hgs]; exact c2, by rw [hw.cell (p := ⟨g, off + j * 8 + 3, none⟩) hgs]; exact c3, by rw [hw.cell (p := ⟨g, off + j * 8 + 4, none⟩) hgs]; exact c4, by rw [hw.cell (p := ⟨g, off + j * 8 + 5, none⟩) hgs]; exact c5, by rw [hw.cell (p := ⟨g, off + j * 8 + 6, none⟩) hgs]; exact c6, by rw [hw.cell (p := ⟨g, off + j * 8 + 7, none⟩) hgs]; exact c7⟩
    have hk0 : ∀ (i : 0 < kids.length), kidL (Ex.says l kids) 0 = Ex.say l kids[0] := fun i => Ex.says_at l kids 0 i
    rw [St.say]
    generalize Ex.says l kids = ts at *
    obtain rfl | rfl | rfl | rfl | rfl | rfl | rfl | rfl := eight h.base.k0 h.base.k7
    · have e : stL l 0 tk tn name ts (St.says l body) (St.says l els) = ([32, 118, 97, 114, 32] ++ name ++ sayTy l tk tn ++ [32, 59]).drop 1 ++ [10] := by
        show [118, 97, 114, 32] ++ name ++ sayTy l tk tn ++ [32, 59, 10] = _
        simp [List.append_assoc]
      refine ⟨_, e.symm, fun K A w tv zs hp hmid hbn => ?_⟩
      have hbl : zs.length + ([32, 118, 97, 114, 32] ++ name ++ sayTy l tk tn ++ [32, 59]).length ≤ 1000000 := by rw [e] at hbn; simp at hbn ⊢; omega
      exact (stmt_0 K A W w sv tv _ y1 y2 y3 _ t1 _ t2 _ t3 zs n tk tn hp l hl hnm (h.ty rfl) name r0 (h.tok rfl) (h.base.nm rfl) hbl).mono (fun _ _ => new_line hmid rfl)
    · have h2 := h.two rfl
      obtain ⟨p, q, rfl⟩ : ∃ p q, ts = [p, q] := by
        match ts, hml with
        | [], hml => simp at hml; omega
        | [a], hml => simp at hml; omega
        | [a, b], _ => exact ⟨a, b, rfl⟩
        | a :: b :: c :: r, hml => simp at hml; omega
      have hg0 : Good p := by
        have := hKg 0 (by omega)
        rw [← hk0 (by omega)] at this
        exact this
      have e : stL l 1 tk tn name [p, q] (St.says l body) (St.says l els) = (joinG [61] [p, q] ++ [32, 59]).drop 1 ++ [10] := by
        show p.drop 1 ++ [32, 61] ++ q ++ [32, 59, 10] = _
        cases p with
        | nil => exact absurd hg0.two (by simp)
        | cons a r => simp [joinG, tailG, List.append_assoc]
      refine ⟨_, e.symm, fun K A w tv zs hp hmid hbn => ?_⟩
      have hbl : zs.length + (joinG [61] [p, q] ++ [32, 59]).length ≤ 1000000 := by rw [e, List.length_append, List.length_drop] at hbn; simp at hbn ⊢; omega
      exact (stmt_1 K A W w sv tv y0 y1 y2 y3 _ t0 _ t1 _ t2 _ t3 zs n tk tn hp [p, q] hKs (by simp) (by simp) hbl).mono (fun _ _ => new_line hmid rfl)
    · have h2 := h.base.one (.inl rfl)
      have e : stL l 2 tk tn name ts (St.says l body) (St.says l els) = (([32, 105, 102] : List Int) ++ Ex.say l kids[0] ++ blockL (St.says l body) ++ [32, 101, 108, 115, 101] ++ blockL (St.says l els)).drop 1 ++ [10] := by
        rw [← hk0 h2]
        show [105, 102] ++ kidL ts 0 ++ blockL (St.says l body) ++ [32, 101, 108, 115, 101] ++ blockL (St.says l els) ++ [10] = _
        simp [List.append_assoc]
      refine ⟨_, e.symm, fun K A w tv zs hp hmid hbn => ?_⟩
      have hbl : zs.length + (([32, 105, 102] : List Int) ++ Ex.say l kids[0] ++ blockL (St.says l body) ++ [32, 101, 108, 115, 101] ++ blockL (St.says l els)).length ≤ 999999 := by rw [e, List.length_append, List.length_drop] at hbn; simp only [List.length_append, List.length_cons, List.length_nil] at hbn ⊢; omega
      exact (stmt_2 K A W w sv tv _ y0 y2 y3 _ t0 _ t2 _ t3 zs n tk tn hp _ _ _ _ (hK 0 h2) (hKg 0 h2) hB hL hbl).mono (fun _ _ => new_line hmid rfl)
    · have h2 := h.base.one (.inr (.inl rfl))
      have e : stL l 3 tk tn name ts (St.says l body) (St.says l els) = (([32, 102, 111, 114] : List Int) ++ Ex.say l kids[0] ++ blockL (St.says l body)).drop 1 ++ [10] := by
        rw [← hk0 h2]
        show [102, 111, 114] ++ kidL ts 0 ++ blockL (St.says l body) ++ [10] = _
        simp [List.append_assoc]
      refine ⟨_, e.symm, fun K A w tv zs hp hmid hbn => ?_⟩
      have hbl : zs.length + (([32, 102, 111, 114] : List Int) ++ Ex.say l kids[0] ++ blockL (St.says l body)).length ≤ 999999 := by rw [e, List.length_append, List.length_drop] at hbn; simp only [List.length_append, List.length_cons, List.length_nil] at hbn ⊢; omega
      exact (stmt_3 K A W w sv tv _ y0 y2 y3 _ t0 _ t2 _ t3 zs n tk tn hp _ _ _ (hK 0 h2) (hKg 0 h2) hB hbl).mono (fun _ _ => new_line hmid rfl)
    · have h2 := h.few rfl
      have e : stL l 4 tk tn name ts (St.says l body) (St.says l els) = ((32 :: [114, 101, 116, 117, 114, 110]) ++ joinL ts ++ (32 :: [59])).drop 1 ++ [10] := by
        rw [joinL_few (by omega)]
        show [114, 101, 116, 117, 114, 110] ++ kidL ts 0 ++ [32, 59, 10] = _
        simp [List.append_assoc]
      refine ⟨_, e.symm, fun K A w tv zs hp hmid hbn => ?_⟩
      have hbl : zs.length + ((32 :: [114, 101, 116, 117, 114, 110]) ++ joinL ts ++ (32 :: [59])).length ≤ 1000000 := by rw [e, List.length_append, List.length_drop] at hbn; simp only [List.length_append, List.length_cons, List.length_nil] at hbn ⊢; omega
      exact (stmt_4 K A W w sv tv y0 y1 y2 y3 _ t0 _ t1 _ t2 _ t3 zs n tk tn hp ts hKs (by omega) hbl).mono (fun _ _ => new_line hmid rfl)
    · have h2 := h.one (.inl rfl)
      have e : stL l 5 tk tn name ts (St.says l body) (St.says l els) = ((32 :: [112, 114, 105, 110, 116]) ++ joinL ts ++ (32 :: [59])).drop 1 ++ [10] := by
        rw [joinL_few (by omega)]
        show [112, 114, 105, 110, 116] ++ kidL ts 0 ++ [32, 59, 10] = _
        simp [List.append_assoc]
      refine ⟨_, e.symm, fun K A w tv zs hp hmid hbn => ?_⟩
      have hbl : zs.length + ((32 :: [112, 114, 105, 110, 116]) ++ joinL ts ++ (32 :: [59])).length ≤ 1000000 := by rw [e, List.length_append, List.length_drop] at hbn; simp only [List.length_append, List.length_cons, List.length_nil] at hbn ⊢; omega
      exact (stmt_5 K A W w sv tv y0 y1 y2 y3 _ t0 _ t1 _ t2 _ t3 zs n tk tn hp ts hKs (by omega) hbl).mono (fun _ _ => new_line hmid rfl)
    · have h2 := h.one (.inr (.inl rfl))
      have e : stL l 6 tk tn name ts (St.says l body) (St.says l els) = ((32 :: [112, 97, 110, 105, 99]) ++ joinL ts ++ (32 :: [59])).drop 1 ++ [10] := by
        rw [joinL_few (by omega)]
        show [112, 97, 110, 105, 99] ++ kidL ts 0 ++ [32, 59, 10] = _
        simp [List.append_assoc]
      refine ⟨_, e.symm, fun K A w tv zs hp hmid hbn => ?_⟩
      have hbl : zs.length + ((32 :: [112, 97, 110, 105, 99]) ++ joinL ts ++ (32 :: [59])).length ≤ 1000000 := by rw [e, List.length_append, List.length_drop] at hbn; simp only [List.length_append, List.length_cons, List.length_nil] at hbn ⊢; omega
      exact (stmt_6 K A W w sv tv y0 y1 y2 y3 _ t0 _ t1 _ t2 _ t3 zs n tk tn hp ts hKs (by omega) hbl).mono (fun _ _ => new_line hmid rfl)
    · have h2 := h.one (.inr (.inr rfl))
      have e : stL l 7 tk tn name ts (St.says l body) (St.says l els) = ((32 :: [100, 111]) ++ joinL ts ++ (32 :: [59])).drop 1 ++ [10] := by
        rw [joinL_few (by omega)]
        show [100, 111] ++ kidL ts 0 ++ [32, 59, 10] = _
        simp [List.append_assoc]
      refine ⟨_, e.symm, fun K A w tv zs hp hmid hbn => ?_⟩
      have hbl : zs.length + ((32 :: [100, 111]) ++ joinL ts ++ (32 :: [59])).length ≤ 1000000 := by rw [e, List.length_append, List.length_drop] at hbn; simp only [List.length_append, List.length_cons, List.length_nil] at hbn ⊢; omega
      exact (stmt_7 K A W w sv tv y0 y1 y2 y3 _ t0 _ t1 _ t2 _ t3 zs n tk tn hp ts hKs (by omega) hbl).mono (fun _ _ => new_line hmid rfl)
theorem blockP_any {W : World} {l : List Sc} {sv : Value} (hE : Env W) (hl : RdL W 2 sv (Sc.dats l)) (hnm : NamesTok l) (ss : List St) (v : Value) (hm : ss.length ≤ 1000000) (hf : ∀ x ∈ ss, St.FineI l x) (hr : RdL W 8 v (St.dats ss)) : BlkP W sv v (St.says l ss) :=
  blockP_all hE hl hnm _ ss v (Nat.lt_succ_self _) hm hf hr
end Go.Proofs.YtbigjeejmacjcaaGreatDoor
/- The program's printer: structs, functions. -/
namespace Go.Proofs.YtbigjeejmacjcaaGreatDoor
open Go.RowKit Go.Lib
structure PaFineI (l : List Sc) (x : Pa) : Prop where
  nm : 1 ≤ x.name.length
  tok : midB x.name = true
  ty : TyFine l x.tk x.tn
theorem PaFineI.fine {l : List Sc} {x : Pa} (h : PaFineI l x) : PaFine l x := ⟨h.nm, h.ty.2.2⟩
theorem pa_good {l : List Sc} (hnm : NamesTok l) {x : Pa} (h : PaFineI l x) : Good (32 :: paL l x) := by
  show Good ((32 :: x.name) ++ sayTy l x.tk x.tn)
  rcases ty_good hnm h.ty with e | e
  · rw [e, List.append_nil]; exact Good.cons h.tok
  · exact (Good.cons h.tok).app e
set_option maxRecDepth 20000 in
set_option maxHeartbeats 4000000 in
theorem structure_any (K : Nat) (A W w : World) (sv tv v0 v1 : Value) (zs : List Int) (l : List Sc) (x : Sc) (h : Pr K A W w sv tv zs) (hl : RdL W 2 sv (Sc.dats l)) (hnm : NamesTok l) (hn1 : 1 ≤ x.name.length) (hm : midB x.name = true) (hfew : x.fields.length ≤ 1000) (hfs : ∀ p ∈ x.fields, PaFineI l p) (h0 : RdN W v0 x.name) (h1 : RdL W 3 v1 (Pa.dats x.fields)) (hmid : midB zs = false) (hb : zs.length + (scL l x).length ≤ 999999) :
    Calls Tryz.prog 20 #[.pointer (some ⟨K, 0, none⟩), .agg #[v0, v1]] w (PrP K A W sv (zs ++ scL l x)) := by
  obtain ⟨nm, fs⟩ := x
  replace hn1 : 1 ≤ nm.length := hn1
  replace hm : midB nm = true := hm
  replace hfew : fs.length ≤ 1000 := hfew
  replace hfs : ∀ p ∈ fs, PaFineI l p := hfs
  replace h0 : RdN W v0 nm := h0
  replace h1 : RdL W 3 v1 (Pa.dats fs) := h1
  obtain ⟨s, g0, off0, q, rfl, _, hs, hcv⟩ := nm_string h0 hn1
  have hs1 : midB (bytesOf s) = true := by rw [hs]; exact hm
  obtain ⟨fa, fcap, rfl, hfl⟩ := Pa.slice h1
  obtain ⟨H, hH⟩ := hid_ex (zs ++ ([116, 121, 112, 101, 32] ++ nm ++ [32, 115, 116, 114, 117, 99, 116, 32, 123]))
  have hlH : H.length = zs.length + nm.length + 14 := by rw [hH.out]; simp; omega
  have heT : zs ++ scL l (.mk nm fs) = H ++ [10] ++ fieldsL l fs ++ [125] ++ [10] := by
    rw [hH.out]
    show zs ++ ([116, 121, 112, 101, 32] ++ nm ++ [32, 115, 116, 114, 117, 99, 116, 32, 123, 10] ++ fieldsL l fs ++ [125, 10]) = _
    simp [List.append_assoc]
  have hbT : H.length + 1 + (fieldsL l fs).length + 2 ≤ 999999 := by
    have := congrArg List.length heT
    rw [List.length_append] at this
    simp only [List.length_append, List.length_cons, List.length_nil] at this
    omega
  have he0 : atL zs ([32, 116, 121, 112, 101, 32] ++ nm ++ [32, 115, 116, 114, 117, 99, 116, 32, 123]) = H := by rw [atL_new hmid, hH.out]; simp
  obtain ⟨w1, hw1⟩ : ∃ w1, Hid (w1 = w.alloc (.cells #[.slice (some ⟨g0, off0, none⟩) nm.length q, .slice fa fs.length fcap] 52)) := ⟨_, rfl⟩
  have hK := lt_of_some h.row
  have hA : Pr K A W w1 sv tv zs := by rw [hw1.out]; exact h.alloc _
  have hbx : BxT w.heap.size w1 [.slice (some ⟨g0, off0, none⟩) nm.length q, .slice fa fs.length fcap] 52 := by rw [hw1.out]; exact BxT.new w _ _
  have HC : Hid (∀ w', KP K w1 w' → w'.cell? ⟨w.heap.size, 1, none⟩ = some (.slice fa fs.length fcap)) := hbx.kp (by decide) (by omega) 1 _ rfl
  have hsz : Hid (w.heap.size + 1 = w1.heap.size) := by rw [hw1.out]; show _ = _; simp
  have hA1 := hA.from
  have HF : Hid (∀ w' t', Pr K w1 W w' sv t' (H ++ [10] ++ fieldsL l fs ++ [125] ++ [10]) → PrP K A W sv (zs ++ scL l (.mk nm fs)) (.returned (.tuple #[])) w') := fun w' t' hp => ⟨rfl, t', by rw [heT]; exact hp.back hA.kp⟩
  have cv := hcv w1 hA.lat
  rw [hw1.out] at cv
  have hm0 : midB (H ++ [10] ++ fieldsL l (fs.take 0)) = false := by rw [List.take_zero, fieldsL, List.append_nil]; exact midB_line _
  have HE : Hid (∀ (j : Nat) (hj : j < fs.length), ∃ g off x0 y0 z0, fa = some ⟨g, off, none⟩ ∧ RdN W (.slice x0 y0 z0) fs[j].name ∧ ∀ w', Later W w' → w'.cell? ⟨g, off + j * 3, none⟩ = some (.slice x0 y0 z0) ∧ w'.cell? ⟨g, off + j * 3 + 1, none⟩ = some (.int .i64 fs[j].tk) ∧ w'.cell? ⟨g, off + j * 3 + 2, none⟩ = some (.int .i64 fs[j].tn)) := fun j hj => by
    obtain ⟨g, off, u0, e, hgs, c0, c1, c2, r0⟩ := Pa.elem h1 j hj
    obtain ⟨b0, p0, rfl, _⟩ := r0.slice
    exact ⟨g, off, b0, _, p0, e, r0, fun w' hw => ⟨by rw [hw.cell (p := ⟨g, off + j * 3, none⟩) hgs]; exact c0, by rw [hw.cell (p := ⟨g, off + j * 3 + 1, none⟩) hgs]; exact c1, by rw [hw.cell (p := ⟨g, off + j * 3 + 2, none⟩) hgs]; exact c2⟩⟩
  generalize hQ : PrP K A W sv (zs ++ scL l (.mk nm fs)) = Q
  rw [hQ] at HF
  clear hQ hA hbx hcv h heT
  go_enter Tryz.func20, Tryz.ntmps20
  go_wp2_with fail
  rw [← hw1.out]
  refine (put4 K w1 W w1 sv tv zs ⟨#[116, 121, 112, 101]⟩ s ⟨#[115, 116, 114, 117, 99, 116]⟩ ⟨#[123]⟩ ([32, 116, 121, 112, 101, 32] ++ nm ++ [32, 115, 116, 114, 117, 99, 116, 32, 123]) (by rw [hs]; simp [spread, bytesOf]) hA1 (by decide) hs1 (by decide) (by decide) (by simp; omega) _ hsz.out).mono ?_
  rintro e w2 ⟨rfl, t2, hp2⟩
  rw [he0] at hp2
  go_wp2_with fail
  refine (endLine_any K w1 W w2 sv t2 _ hp2 (by omega)).mono ?_
  rintro e w3 ⟨rfl, t3, hp3⟩
  have q1 := HC.out _ hp3.kp
  go_wp2_with fail
  go_loopw [17] (fun i wr => ∃ (j : Nat) (tv' : Value), i = .int .i64 (j : Int) ∧ j ≤ fs.length ∧ midB (H ++ [10] ++ fieldsL l (fs.take j)) = false ∧ Pr K w1 W wr sv tv' (H ++ [10] ++ fieldsL l (fs.take j))) (fun i _ => fs.length - (intOf i).toNat)
  case atStart => exact ⟨0, t3, rfl, Nat.zero_le _, hm0, by rw [List.take_zero, fieldsL, List.append_nil]; exact hp3⟩
  case round =>
    obtain ⟨j, tv', rfl, hj, hmj, hp⟩ := hrel
    by_cases hlt : j < fs.length
    · obtain ⟨g, off, x0, y0, z0, rfl, r0, hcl⟩ := HE.out j hlt
      obtain ⟨d0, d1, d2⟩ := hcl _ hp.lat
      have hst := fieldsL_step l fs j hlt
      have hpr := fieldsL_pre l fs (j + 1)
      have hF := hfs _ (List.getElem_mem hlt)
      have hG := pa_good hnm hF
      rw [hst] at hpr
      have i1 : (j : Int) < (fs.length : Int) := by omega
      have hlj : (H ++ [10] ++ fieldsL l (fs.take j)).length = H.length + 1 + (fieldsL l (fs.take j)).length := by simp; omega
      have hpb := hp.alloc (.cells #[.slice x0 y0 z0, .int .i64 fs[j].tk, .int .i64 fs[j].tn] 75)
      have he1 : atL (atL (H ++ [10] ++ fieldsL l (fs.take j)) (32 :: paL l fs[j])) [32, 59] ++ [10] = H ++ [10] ++ fieldsL l (fs.take (j + 1)) := by
        rw [atL_at _ hG, atL_new hmj, hst]
        simp [List.append_assoc]
      have hl1 := atL_len (H ++ [10] ++ fieldsL l (fs.take j)) (32 :: paL l fs[j])
      have hl2 := atL_len (atL (H ++ [10] ++ fieldsL l (fs.take j)) (32 :: paL l fs[j])) [32, 59]
      have hmn : midB (H ++ [10] ++ fieldsL l (fs.take (j + 1))) = false := by rw [← he1]; exact midB_line _
      have hlp : (32 :: paL l fs[j]).length = (paL l fs[j]).length + 1 := rfl
      have hlq : ([32, 59] : List Int).length = 2 := rfl
      simp only [List.length_append, List.length_cons, List.length_nil] at hpr
      clear hcl hst
      go_wp2_with fail
      refine (param_any K w1 W _ sv tv' _ _ l fs[j].name fs[j].tk fs[j].tn hpb hl hnm hF.ty r0 hF.tok hF.nm (by show _ + (32 :: paL l fs[j]).length ≤ _; omega)).mono ?_
      rintro e w4 ⟨rfl, t4, hp4⟩
      go_wp2_with fail
      refine (put1 K w1 W w4 sv t4 _ ⟨#[59]⟩ [32, 59] rfl hp4 (by decide) (by show (atL _ (32 :: paL l fs[j])).length + _ ≤ _; omega) _ rfl).mono ?_
      rintro e w5 ⟨rfl, t5, hp5⟩
      go_wp2_with fail
      refine (endLine_any K w1 W w5 sv t5 _ hp5 (by show (atL (atL _ (32 :: paL l fs[j])) _).length ≤ _; omega)).mono ?_
      rintro e w6 ⟨rfl, t6, hp6⟩
      replace hp6 : Pr K w1 W w6 sv t6 (H ++ [10] ++ fieldsL l (fs.take (j + 1))) := by rw [← he1]; exact hp6
      go_wp2_with fail
      go_roundw
      case rel => exact ⟨j + 1, _, by go_num, by omega, hmn, hp6⟩
      case measure => simp [intOf]; omega
    · have hje : j = fs.length := by omega
      have i1 : ¬ (j : Int) < (fs.length : Int) := by omega
      rw [hje, List.take_length] at hp hmj
      have hlj : (H ++ [10] ++ fieldsL l fs).length = H.length + 1 + (fieldsL l fs).length := by simp; omega
      have he : atL (H ++ [10] ++ fieldsL l fs) [32, 125] = H ++ [10] ++ fieldsL l fs ++ [125] := by rw [atL_new hmj]; rfl
      have hlc : ([32, 125] : List Int).length = 2 := rfl
      have hld : (H ++ [10] ++ fieldsL l fs ++ [125]).length = H.length + 1 + (fieldsL l fs).length + 1 := by rw [List.length_append, hlj]; rfl
      go_wp2_with fail
      refine (put1 K w1 W wr sv tv' _ ⟨#[125]⟩ [32, 125] rfl hp (by decide) (by omega) _ rfl).mono ?_
      rintro e w4 ⟨rfl, t4, hp4⟩
      rw [he] at hp4
      go_wp2_with fail
      refine (endLine_any K w1 W w4 sv t4 _ hp4 (by omega)).mono ?_
      rintro e w5 ⟨rfl, t5, hp5⟩
      go_wp2_with fail
      refine bodyPost_end (results_none rfl _ _ _) rfl ?_
      exact HF.out _ _ hp5
end Go.Proofs.YtbigjeejmacjcaaGreatDoor
/- The program's printer: functions. -/
namespace Go.Proofs.YtbigjeejmacjcaaGreatDoor
open Go.RowKit Go.Lib
structure FuFineI (l : List Sc) (x : Fu) : Prop where
  nm : 1 ≤ x.name.length
  tok : midB x.name = true
  ps : ∀ p ∈ x.params, PaFineI l p
  few : x.params.length ≤ 1000
  ty : TyFine l x.rk x.rn
  few2 : x.body.length ≤ 1000000
  body : ∀ s ∈ x.body, St.FineI l s
theorem FuFineI.fine {l : List Sc} {x : Fu} (h : FuFineI l x) : FuFine l x := ⟨h.nm, fun p hp => (h.ps p hp).fine, h.few, h.ty.2.2, h.few2, fun s hs => (h.body s hs).fine⟩
set_option maxRecDepth 20000 in
set_option maxHeartbeats 4000000 in
theorem function_any (K : Nat) (A W w : World) (sv tv v0 v1 v2 : Value) (zs : List Int) (l : List Sc) (x : Fu) (h : Pr K A W w sv tv zs) (hE : Env W) (hl : RdL W 2 sv (Sc.dats l)) (hnm : NamesTok l) (hx : FuFineI l x) (h0 : RdN W v0 x.name) (h1 : RdL W 3 v1 (Pa.dats x.params)) (h2 : RdL W 8 v2 (St.dats x.body)) (hmid : midB zs = false) (hb : zs.length + (fuL l x).length ≤ 999999) :
    Calls Tryz.prog 21 #[.pointer (some ⟨K, 0, none⟩), .agg #[v0, v1, .int .i64 x.rk, .int .i64 x.rn, v2]] w (PrP K A W sv (zs ++ fuL l x)) := by
  have hBk := blockP_any hE hl hnm x.body v2 hx.few2 hx.body h2
  obtain ⟨nm, ps, rk, rn, body⟩ := x
  replace h0 : RdN W v0 nm := h0
  replace h1 : RdL W 3 v1 (Pa.dats ps) := h1
  replace h2 : RdL W 8 v2 (St.dats body) := h2
  have hn1 : 1 ≤ nm.length := hx.nm
  have hm : midB nm = true := hx.tok
  have hps : ∀ p ∈ ps, PaFineI l p := hx.ps
  have hfew : ps.length ≤ 1000 := hx.few
  have hty : TyFine l rk rn := hx.ty
  replace hBk : BlkP W sv v2 (St.says l body) := hBk
  show Calls Tryz.prog 21 #[.pointer (some ⟨K, 0, none⟩), .agg #[v0, v1, .int .i64 rk, .int .i64 rn, v2]] w (PrP K A W sv (zs ++ fuL l (.mk nm ps rk rn body)))
  obtain ⟨s, g0, off0, q, rfl, _, hs, hcv⟩ := nm_string h0 hn1
  have hs1 : midB (bytesOf s) = true := by rw [hs]; exact hm
  obtain ⟨fa, fcap, rfl, hfl⟩ := Pa.slice h1
  obtain ⟨ba, bn, bc, rfl, hBk⟩ := hBk
  obtain ⟨ts, hts⟩ := hid_ex (ps.map fun p => 32 :: paL l p)
  have htl : ts.length = ps.length := by rw [hts.out]; simp
  have hta : ∀ (j : Nat) (hj : j < ps.length), ts[j]'(by omega) = 32 :: paL l ps[j] := fun j hj => by simp only [hts.out, List.getElem_map]
  have hg : ∀ t ∈ ts, Good t := fun t ht => by
    rw [hts.out, List.mem_map] at ht
    obtain ⟨p, hp, rfl⟩ := ht
    exact pa_good hnm (hps p hp)
  obtain ⟨F, hF⟩ := hid_ex ([32, 102, 117, 110, 99, 32] ++ nm ++ [32, 40])
  have hGF : Good F := by rw [hF.out]; exact ⟨by simp, midB_append ([32, 102, 117, 110, 99, 32] ++ nm) (t := [32, 40]) rfl⟩
  have hlF : F.length = nm.length + 8 := by rw [hF.out]; simp
  have hGj : ∀ j, j ≤ ts.length → Good (F ++ joinL (ts.take j)) := fun j hj => by
    rcases Nat.eq_zero_or_pos j with h0 | h0
    · rw [h0, List.take_zero, joinL, List.append_nil]; exact hGF
    · have := joinG_good [44] rfl ts hg j h0 hj
      rw [joinG_comma] at this
      exact hGF.app this
  obtain ⟨J, hJ⟩ := hid_ex (F ++ joinL ts)
  have hGJ : Good J := by have := hGj ts.length (Nat.le_refl _); rw [List.take_length] at this; rw [hJ.out]; exact this
  have hlJ : J.length = F.length + (joinL ts).length := by rw [hJ.out, List.length_append]
  have hG2 : Good (J ++ [32, 41]) := hGJ.app ⟨by decide, by decide⟩
  have hG3 : Good (J ++ [32, 41] ++ sayTy l rk rn) := by
    rcases ty_good hnm hty with e | e
    · rw [e, List.append_nil]; exact hG2
    · exact hG2.app e
  have heT : zs ++ fuL l (.mk nm ps rk rn body) = atL zs (J ++ [32, 41] ++ sayTy l rk rn) ++ blockL (St.says l body) ++ [10] := by
    rw [atL_new hmid, hJ.out, hF.out, hts.out]
    show zs ++ ([102, 117, 110, 99, 32] ++ nm ++ [32, 40] ++ joinL (ps.map fun p => 32 :: paL l p) ++ [32, 41] ++ sayTy l rk rn ++ blockL (St.says l body) ++ [10]) = _
    simp [List.append_assoc]
  have hbT : zs.length + (J.length + 2 + (sayTy l rk rn).length) + (blockL (St.says l body)).length ≤ 999999 := by
    have := congrArg List.length heT
    rw [List.length_append, atL_new hmid] at this
    simp only [List.length_append, List.length_drop, List.length_cons, List.length_nil] at this
    omega
  obtain ⟨w1, hw1⟩ : ∃ w1, Hid (w1 = w.alloc (.cells #[.slice (some ⟨g0, off0, none⟩) nm.length q, .slice fa ps.length fcap, .int .i64 rk, .int .i64 rn, .slice ba bn bc] 58)) := ⟨_, rfl⟩
  have hK := lt_of_some h.row
  have hA : Pr K A W w1 sv tv zs := by rw [hw1.out]; exact h.alloc _
  have hbx : BxT w.heap.size w1 [.slice (some ⟨g0, off0, none⟩) nm.length q, .slice fa ps.length fcap, .int .i64 rk, .int .i64 rn, .slice ba bn bc] 58 := by rw [hw1.out]; exact BxT.new w _ _
  have HC : Hid (∀ i u, [Value.slice (some ⟨g0, off0, none⟩) nm.length q, .slice fa ps.length fcap, .int .i64 rk, .int .i64 rn, .slice ba bn bc][i]? = some u → ∀ w', KP K w1 w' → w'.cell? ⟨w.heap.size, i, none⟩ = some u) := fun i u hu => hbx.kp (by decide) (by omega) i u hu
  have hsz : Hid (w.heap.size + 1 = w1.heap.size) := by rw [hw1.out]; show _ = _; simp
  have hA1 := hA.from
  have HF : Hid (∀ w' t', Pr K w1 W w' sv t' (atL zs (J ++ [32, 41] ++ sayTy l rk rn) ++ blockL (St.says l body) ++ [10]) → PrP K A W sv (zs ++ fuL l (.mk nm ps rk rn body)) (.returned (.tuple #[])) w') := fun w' t' hp => ⟨rfl, t', by rw [heT]; exact hp.back hA.kp⟩
  have cv := hcv w1 hA.lat
  rw [hw1.out] at cv
  have HE : Hid (∀ (j : Nat) (hj : j < ps.length), ∃ g off x0 y0 z0, fa = some ⟨g, off, none⟩ ∧ RdN W (.slice x0 y0 z0) ps[j].name ∧ ∀ w', Later W w' → w'.cell? ⟨g, off + j * 3, none⟩ = some (.slice x0 y0 z0) ∧ w'.cell? ⟨g, off + j * 3 + 1, none⟩ = some (.int .i64 ps[j].tk) ∧ w'.cell? ⟨g, off + j * 3 + 2, none⟩ = some (.int .i64 ps[j].tn)) := fun j hj => by
    obtain ⟨g, off, u0, e, hgs, c0, c1, c2, r0⟩ := Pa.elem h1 j hj
    obtain ⟨b0, p0, rfl, _⟩ := r0.slice
    exact ⟨g, off, b0, _, p0, e, r0, fun w' hw => ⟨by rw [hw.cell (p := ⟨g, off + j * 3, none⟩) hgs]; exact c0, by rw [hw.cell (p := ⟨g, off + j * 3 + 1, none⟩) hgs]; exact c1, by rw [hw.cell (p := ⟨g, off + j * 3 + 2, none⟩) hgs]; exact c2⟩⟩
  have htl' : Hid (ts.length = ps.length) := htl
  have hGj' : Hid (∀ j, j ≤ ts.length → Good (F ++ joinL (ts.take j))) := hGj
  have hta' : Hid (∀ (j : Nat) (hj : j < ps.length), ts[j]'(by rw [htl'.out]; exact hj) = 32 :: paL l ps[j]) := hta
  have hlF' := atL_len zs F
  generalize hQ : PrP K A W sv (zs ++ fuL l (.mk nm ps rk rn body)) = Q
  rw [hQ] at HF
  clear hQ hA hbx hcv h heT htl hGj hta hg hx
  go_enter Tryz.func21, Tryz.ntmps21
  go_wp2_with fail
  rw [← hw1.out]
  refine (put3 K w1 W w1 sv tv zs ⟨#[102, 117, 110, 99]⟩ s ⟨#[40]⟩ F (by rw [hF.out, hs]; simp [spread, bytesOf]) hA1 (by decide) hs1 (by decide) (by omega) _ hsz.out).mono ?_
  rintro e w2 ⟨rfl, t2, hp2⟩
  have q1 := HC.out 1 _ rfl _ hp2.kp
  go_wp2_with fail
  go_loopw [15] (fun i wr => ∃ (j : Nat) (tv' : Value), i = .int .i64 (j : Int) ∧ j ≤ ps.length ∧ Pr K w1 W wr sv tv' (atL zs (F ++ joinL (ts.take j)))) (fun i _ => ps.length - (intOf i).toNat)
  case atStart => exact ⟨0, t2, rfl, Nat.zero_le _, by rw [List.take_zero, joinL, List.append_nil]; exact hp2⟩
  case round =>
    obtain ⟨j, tv', rfl, hj, hp⟩ := hrel
    by_cases hlt : j < ps.length
    · obtain ⟨g, off, x0, y0, z0, rfl, r0, hcl⟩ := HE.out j hlt
      obtain ⟨d0, d1, d2⟩ := hcl _ hp.lat
      have hlt' : j < ts.length := by rw [htl'.out]; exact hlt
      have hG := hGj'.out j (by omega)
      have hst := joinL_step ts j hlt'
      have hat := joinL_at ts j hlt'
      rw [hta'.out j hlt] at hst hat
      have hFi := hps _ (List.getElem_mem hlt)
      have i1 : (j : Int) < (ps.length : Int) := by omega
      have hlj := atL_len zs (F ++ joinL (ts.take j))
      rw [List.length_append] at hlj
      obtain ⟨wb, hwb⟩ := hid_ex (wr.alloc (.cells #[.slice x0 y0 z0, .int .i64 ps[j].tk, .int .i64 ps[j].tn] 75))
      have hKr := lt_of_some hp.row
      have hpb : Pr K w1 W wb sv tv' (atL zs (F ++ joinL (ts.take j))) := by rw [hwb.out]; exact hp.alloc _
      have hbxr : BxT wr.heap.size wb [.slice x0 y0 z0, .int .i64 ps[j].tk, .int .i64 ps[j].tn] 75 := by rw [hwb.out]; exact BxT.new wr _ _
      have hszr : Hid (wr.heap.size + 1 = wb.heap.size) := by rw [hwb.out]; show _ = _; simp
      have hlp : (32 :: paL l ps[j]).length = (paL l ps[j]).length + 1 := rfl
      have hlq : ([32, 44] : List Int).length = 2 := rfl
      have hlr : (32 :: (ps[j].name ++ sayTy l ps[j].tk ps[j].tn)).length = (32 :: paL l ps[j]).length := rfl
      clear hcl
      by_cases hz : j = 0
      · rw [if_pos hz] at hst hat
        have he : atL (atL zs (F ++ joinL (ts.take j))) (32 :: paL l ps[j]) = atL zs (F ++ joinL (ts.take (j + 1))) := by rw [hst, atL_at zs hG]; simp [List.append_assoc]
        have i2 : ¬ (0 : Int) < (j : Int) := by omega
        have hz' : Hid (j = 0) := hz
        clear hz hst hbxr
        go_wp2_with fail
        rw [← hwb.out]
        refine (param_any K w1 W _ sv tv' _ _ l ps[j].name ps[j].tk ps[j].tn hpb hl hnm hFi.ty r0 hFi.tok hFi.nm (by omega)).mono ?_
        rintro e w4 ⟨rfl, t4, hp4⟩
        replace hp4 : Pr K w1 W w4 sv t4 (atL zs (F ++ joinL (ts.take (j + 1)))) := by rw [← he]; exact hp4
        go_wp2_with fail
        go_roundw
        case rel => exact ⟨j + 1, _, by go_num, by omega, hp4⟩
        case measure => simp [intOf]; omega
      · rw [if_neg hz] at hst hat
        have hG4 : Good (F ++ joinL (ts.take j) ++ [32, 44]) := hG.app ⟨by decide, by decide⟩
        have he1 : atL (atL zs (F ++ joinL (ts.take j))) [32, 44] = atL zs (F ++ joinL (ts.take j) ++ [32, 44]) := atL_at zs hG _
        have he : atL (atL zs (F ++ joinL (ts.take j) ++ [32, 44])) (32 :: paL l ps[j]) = atL zs (F ++ joinL (ts.take (j + 1))) := by rw [hst, atL_at zs hG4]; simp [List.append_assoc]
        have hl2 := atL_len zs (F ++ joinL (ts.take j) ++ [32, 44])
        rw [List.length_append, List.length_append] at hl2
        have i2 : (0 : Int) < (j : Int) := by omega
        have HCr : Hid (∀ i u, [Value.slice x0 y0 z0, .int .i64 ps[j].tk, .int .i64 ps[j].tn][i]? = some u → ∀ w', KP K wb w' → w'.cell? ⟨wr.heap.size, i, none⟩ = some u) := fun i u hu => hbxr.kp (by decide) (by omega) i u hu
        have hbk := hpb.kp
        have hpf := hpb.from
        clear hst hbxr hpb
        go_wp2_with fail
        rw [← hwb.out]
        refine (put1 K wb W wb sv tv' _ ⟨#[44]⟩ [32, 44] rfl hpf (by decide) (by omega) _ hszr.out).mono ?_
        rintro e w3 ⟨rfl, t3, hp3⟩
        rw [he1] at hp3
        have c0 := HCr.out 0 _ rfl _ hp3.kp
        have c1 := HCr.out 1 _ rfl _ hp3.kp
        have c2 := HCr.out 2 _ rfl _ hp3.kp
        go_wp2_with fail
        refine (param_any K w1 W _ sv t3 _ _ l ps[j].name ps[j].tk ps[j].tn (hp3.back hbk) hl hnm hFi.ty r0 hFi.tok hFi.nm (by omega)).mono ?_
        rintro e w4 ⟨rfl, t4, hp4⟩
        replace hp4 : Pr K w1 W w4 sv t4 (atL zs (F ++ joinL (ts.take (j + 1)))) := by rw [← he]; exact hp4
        go_wp2_with fail
        go_roundw
        case rel => exact ⟨j + 1, _, by go_num, by omega, hp4⟩
        case measure => simp [intOf]; omega
    · have hje : j = ps.length := by omega
      have i1 : ¬ (j : Int) < (ps.length : Int) := by omega
      rw [hje, ← htl'.out, List.take_length, ← hJ.out] at hp
      have hlj := atL_len zs J
      have hl2 := atL_len zs (J ++ [32, 41])
      have hl3 := atL_len zs (J ++ [32, 41] ++ sayTy l rk rn)
      have hlc : ([32, 41] : List Int).length = 2 := rfl
      rw [List.length_append] at hl2
      rw [List.length_append, List.length_append] at hl3
      have he1 : atL (atL zs J) [32, 41] = atL zs (J ++ [32, 41]) := atL_at zs hGJ _
      have he2 : atL (atL zs (J ++ [32, 41])) (sayTy l rk rn) = atL zs (J ++ [32, 41] ++ sayTy l rk rn) := atL_at zs hG2 _
      have hlB : (atL zs (J ++ [32, 41] ++ sayTy l rk rn) ++ blockL (St.says l body)).length = (atL zs (J ++ [32, 41] ++ sayTy l rk rn)).length + (blockL (St.says l body)).length := List.length_append
      go_wp2_with fail
      refine (put1 K w1 W wr sv tv' _ ⟨#[41]⟩ [32, 41] rfl hp (by decide) (by omega) _ rfl).mono ?_
      rintro e w3 ⟨rfl, t3, hp3⟩
      rw [he1] at hp3
      have q2 := HC.out 2 _ rfl _ hp3.kp
      have q3 := HC.out 3 _ rfl _ hp3.kp
      go_wp2_with fail
      refine (pty_any K w1 W w3 sv t3 _ l rk rn hp3 hl hnm hty (by omega)).mono ?_
      rintro e w4 ⟨rfl, t4, hp4⟩
      rw [he2] at hp4
      have q4 := HC.out 4 _ rfl _ hp4.kp
      go_wp2_with fail
      refine (hBk K w1 w4 t4 _ hp4 (midB_at zs hG3) (by omega)).mono ?_
      rintro e w5 ⟨rfl, t5, hp5⟩
      go_wp2_with fail
      refine (endLine_any K w1 W w5 sv t5 _ hp5 (by omega)).mono ?_
      rintro e w6 ⟨rfl, t6, hp6⟩
      go_wp2_with fail
      refine bodyPost_end (results_none rfl _ _ _) rfl ?_
      exact HF.out _ _ hp6
end Go.Proofs.YtbigjeejmacjcaaGreatDoor
