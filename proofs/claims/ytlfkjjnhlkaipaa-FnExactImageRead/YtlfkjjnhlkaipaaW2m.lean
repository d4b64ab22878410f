/- The model's cursor; l11num. -/
import Derived.Test.YtlfkjjnhlkaipaaW1m
import Derived.BigRegion
namespace Go.Proofs.Ytlfkjjnhlkaipaa
open Go.RowKit Go.Lib Go.Maps

/-- The model's cursor: where it stands, or that it has failed. -/
structure Mc (B : Nat) (zs : List Int) (g off cap : Nat) (w : World) (C : Nat) (s : RS) : Prop where
  lt : C < B
  hB : B ≤ w.heap.size
  hg : g < B
  hgC : g ≠ C
  c0 : w.cell? ⟨C, 0, none⟩ = some (.slice (some ⟨g, off, none⟩) zs.length cap)
  cc : zs.length ≤ cap
  c1 : (s.fin = true ∧ w.cell? ⟨C, 1, none⟩ = some (.int .i64 (-1))) ∨ (s.fin = false ∧ ∃ k, k ≤ zs.length ∧ s.rest = zs.drop k ∧ w.cell? ⟨C, 1, none⟩ = some (.int .i64 (k : Nat)))
  f1 : w.frozen? ⟨C, 1, none⟩ = false
  cs : ∀ j (h : j < zs.length), w.cell? ⟨g, off + j, none⟩ = some (.int .u8 zs[j])
  len : zs.length ≤ 200000
  by8 : ∀ z ∈ zs, 0 ≤ z ∧ z ≤ 255
theorem Mc.below {B : Nat} {zs : List Int} {g off cap : Nat} {w w' : World} {C : Nat} {s : RS} (h : Mc B zs g off cap w C s) (l : Below B w w') : Mc B zs g off cap w' C s := by
  obtain ⟨lt, hB, hg, hgC, c0, cc, c1, f1, cs, ln, by8⟩ := h
  refine ⟨lt, Nat.le_trans hB l.size, hg, hgC, by rw [Below.cell l (p := ⟨C, 0, none⟩) lt]; exact c0, cc, ?_, by rw [Below.frozen l (p := ⟨C, 1, none⟩) lt]; exact f1, fun j hj => by rw [Below.cell l (p := ⟨g, off + j, none⟩) hg]; exact cs j hj, ln, by8⟩
  rw [Below.cell l (p := ⟨C, 1, none⟩) lt]
  exact c1
theorem Mc.later {B : Nat} {zs : List Int} {g off cap : Nat} {w w' : World} {C : Nat} {s : RS} (h : Mc B zs g off cap w C s) (l : Later w w') : Mc B zs g off cap w' C s := h.below (Below.mono l h.hB)
theorem Mc.bad {B : Nat} {zs : List Int} {g off cap : Nat} {w : World} {C : Nat} {s : RS} (h : Mc B zs g off cap w C s) : Mc B zs g off cap (w.setCell ⟨C, 1, none⟩ (.int .i64 (-1))) C badS := by
  obtain ⟨lt, hB, hg, hgC, c0, cc, c1, f1, cs, ln, by8⟩ := h
  refine ⟨lt, by simpa using hB, hg, hgC, by rw [set_off _ _ _ (by decide)]; exact c0, cc, Or.inl ⟨rfl, ?_⟩, by rw [World.frozen?_setCell]; exact f1, fun j hj => by rw [set_block _ _ _ _ hgC]; exact cs j hj, ln, by8⟩
  rcases c1 with ⟨_, c⟩ | ⟨_, k, _, _, c⟩ <;> exact set_same c
theorem Mc.move {B : Nat} {zs : List Int} {g off cap : Nat} {w : World} {C : Nat} {s : RS} (h : Mc B zs g off cap w C s) (k : Nat) (hk : k ≤ zs.length) : Mc B zs g off cap (w.setCell ⟨C, 1, none⟩ (.int .i64 (k : Int))) C ⟨zs.drop k, false⟩ := by
  obtain ⟨lt, hB, hg, hgC, c0, cc, c1, f1, cs, ln, by8⟩ := h
  refine ⟨lt, by simpa using hB, hg, hgC, by rw [set_off _ _ _ (by decide)]; exact c0, cc, Or.inr ⟨rfl, k, hk, rfl, ?_⟩, by rw [World.frozen?_setCell]; exact f1, fun j hj => by rw [set_block _ _ _ _ hgC]; exact cs j hj, ln, by8⟩
  rcases c1 with ⟨_, c⟩ | ⟨_, k, _, _, c⟩ <;> exact set_same c
def MnP (B : Nat) (zs : List Int) (g off cap : Nat) (C : Nat) (w : World) (r : Int × RS) (e : Ending) (w' : World) : Prop := e = .returned (.int .i64 r.1) ∧ Mc B zs g off cap w' C r.2 ∧ OnlyK C w w'
theorem drop_two {zs : List Int} {k : Nat} (h : k + 2 ≤ zs.length) : zs.drop k = zs[k] :: zs[k + 1] :: zs.drop (k + 2) := by
  rw [List.drop_eq_getElem_cons (by omega), List.drop_eq_getElem_cons (show k + 1 < zs.length by omega)]
set_option maxRecDepth 20000 in
set_option maxHeartbeats 2000000 in
theorem lnum_any {B : Nat} {zs : List Int} {g off cap : Nat} {w : World} {C : Nat} {s : RS} (h : Mc B zs g off cap w C s) (most : Int) (hm : 0 ≤ most) (hm2 : most ≤ 65535) :
    Calls Try.prog 24 #[.pointer (some ⟨C, 0, none⟩), .int .i64 most] w (MnP B zs g off cap C w (mNum most s)) := by
  have c0 := h.c0
  have f1 := h.f1
  have hlen := h.len
  have hlC : C < w.heap.size := Nat.lt_of_lt_of_le h.lt h.hB
  have HBad : Hid (mNum most s = (0, badS) → ∀ w2, Later w w2 → MnP B zs g off cap C w (mNum most s) (.returned (.int .i64 0)) (w2.setCell ⟨C, 1, none⟩ (.int .i64 (-1)))) := fun e w2 l => by rw [e]; exact ⟨rfl, (h.later l).bad, (OnlyK.of_later l).set 1 _⟩
  rcases h.c1 with ⟨hf, c1⟩ | ⟨hf, k, hk, hr, c1⟩
  · have HZ : Hid _ := HBad.out (by unfold mNum; rw [if_pos hf])
    generalize MnP B zs g off cap C w (mNum most s) = Q at *
    clear HBad h
    generalize zs.length = N at *
    go_enter Try.func24, Try.ntmps24
    go_wp2_with fail
    go_quiet (fail)
    go_wp2_with fail
    exact HZ.out _ (later_drewN (Later.refl _) _)
  · have hw2 : IntKind.i64.wrap ((k : Int) + 2) = (k : Int) + 2 := by rw [IntKind.wrap_i64]; omega
    have hw1 : IntKind.i64.wrap ((k : Int) + 1) = (k : Int) + 1 := by rw [IntKind.wrap_i64]; omega
    by_cases h2 : k + 2 ≤ zs.length
    · have hcond : (decide ((k : Int) < 0) || decide ((zs.length : Int) < IntKind.i64.wrap ((k : Int) + 2))) = false := by rw [hw2]; simp; omega
      have d0 := h.cs k (by omega)
      have d1 := h.cs (k + 1) (by omega)
      have e2 := drop_two h2
      have hgl : g < w.heap.size := Nat.lt_of_lt_of_le h.hg h.hB
      have r0 := h.by8 zs[k] (List.getElem_mem _)
      have r1 := h.by8 zs[k + 1] (List.getElem_mem _)
      have eM : mNum most s = if zs[k] + 256 * zs[k + 1] ≤ most then (zs[k] + 256 * zs[k + 1], ⟨zs.drop (k + 2), false⟩) else (0, badS) := by
        unfold mNum
        rw [if_neg (by rw [hf]; simp), hr, e2]
      have d2 : w.cell? ⟨g, off + (k + 1), none⟩ = some (.int .u8 zs[k + 1]) := d1
      have hk2 : (zs[k] + 256 * zs[k + 1]) ≤ 65535 := by omega
      by_cases hq : zs[k] + 256 * zs[k + 1] ≤ most
      · have iq : ¬ most < zs[k] + 256 * zs[k + 1] := by omega
        rw [if_pos hq] at eM
        have HZ : Hid (∀ w2, Later w w2 → MnP B zs g off cap C w (mNum most s) (.returned (.int .i64 (zs[k] + 256 * zs[k + 1]))) (w2.setCell ⟨C, 1, none⟩ (.int .i64 ((k : Int) + 2)))) := fun w2 l => by
          rw [eM]
          exact ⟨rfl, (h.later l).move (k + 2) h2, (OnlyK.of_later l).set 1 _⟩
        generalize MnP B zs g off cap C w (mNum most s) = Q at *
        clear HBad h eM e2 d1
        generalize zs[k] = z0 at *
        generalize zs[k + 1] = z1 at *
        generalize zs.length = N at *
        go_enter Try.func24, Try.ntmps24
        go_wp2_with fail
        go_quiet (fail)
        go_wp2_with fail
        go_quiet (fail)
        go_wp2_with fail
        exact HZ.out _ (later_drewN (Later.refl _) _)
      · have iq : most < zs[k] + 256 * zs[k + 1] := by omega
        rw [if_neg hq] at eM
        have HZ : Hid (∀ w2, Later w w2 → MnP B zs g off cap C w (mNum most s) (.returned (.int .i64 0)) ((w2.setCell ⟨C, 1, none⟩ (.int .i64 ((k : Int) + 2))).setCell ⟨C, 1, none⟩ (.int .i64 (-1)))) := fun w2 l => by
          rw [eM]
          exact ⟨rfl, ((h.later l).move (k + 2) h2).bad, ((OnlyK.of_later l).set 1 _).set 1 _⟩
        generalize MnP B zs g off cap C w (mNum most s) = Q at *
        clear HBad h eM e2 d1
        generalize zs[k] = z0 at *
        generalize zs[k + 1] = z1 at *
        generalize zs.length = N at *
        go_enter Try.func24, Try.ntmps24
        go_wp2_with fail
        go_quiet (fail)
        go_wp2_with fail
        go_quiet (fail)
        go_wp2_with fail
        exact HZ.out _ (later_drewN (Later.refl _) _)
    · have hcond : (decide ((k : Int) < 0) || decide ((zs.length : Int) < IntKind.i64.wrap ((k : Int) + 2))) = true := by rw [hw2]; simp; omega
      have hl2 : s.rest.length < 2 := by rw [hr, List.length_drop]; omega
      have HZ : Hid _ := HBad.out (by
        unfold mNum
        rw [if_neg (by rw [hf]; simp)]
        match s.rest, hl2 with
        | [], _ => rfl
        | [_], _ => rfl
        | _ :: _ :: r, q => simp only [List.length_cons] at q; omega)
      generalize MnP B zs g off cap C w (mNum most s) = Q at *
      clear HBad h
      generalize zs.length = N at *
      go_enter Try.func24, Try.ntmps24
      go_wp2_with fail
      go_quiet (fail)
      go_wp2_with fail
      exact HZ.out _ (later_drewN (Later.refl _) _)
end Go.Proofs.Ytlfkjjnhlkaipaa
