/- A byte cut out of a row. -/
import Derived.Test.YtbigjeejmacjcaaGreatDoorT42
import Derived.Laws.OwnMore
namespace Go.Proofs.YtbigjeejmacjcaaGreatDoor
open Go.RowKit Go.Lib
def setL : List Value → Nat → List Value → List Value
  | xs, _, [] => xs
  | xs, o, v :: r => setL (xs.set o v) (o + 1) r
theorem setL_len (vs : List Value) : ∀ (xs : List Value) (o : Nat), (setL xs o vs).length = xs.length := by
  induction vs with
  | nil => intro xs o; rfl
  | cons v r ih => intro xs o; rw [setL, ih, List.length_set]
theorem setL_take (vs : List Value) : ∀ (xs : List Value) (o : Nat), o + vs.length ≤ xs.length → (setL xs o vs).take (o + vs.length) = xs.take o ++ vs := by
  induction vs with
  | nil => intro xs o _; simp [setL]
  | cons v r ih =>
    intro xs o h
    rw [List.length_cons] at h
    have h1 := ih (xs.set o v) (o + 1) (by rw [List.length_set]; omega)
    rw [setL, List.length_cons, show o + (r.length + 1) = o + 1 + r.length by omega, h1]
    have h2 : (xs.set o v).take (o + 1) = xs.take o ++ [v] := by
      rw [List.take_add_one, List.take_set_of_le (Nat.le_refl _), List.getElem?_set_self (by omega)]
      rfl
    rw [h2, List.append_assoc]
    rfl
theorem stored_many (vs : List Value) : ∀ (w : World) (base e g n cap o : Nat) (xs : List Value), w.ownsRow base e 1 (.slice (some ⟨g, 0, none⟩) n cap) n xs →
    (w.setCells g o vs).ownsRow base e 1 (.slice (some ⟨g, 0, none⟩) n cap) n (setL xs o vs) ∧ w.grownBy (w.setCells g o vs) (some g) := by
  induction vs with
  | nil => intro w base e g n cap o xs h; exact ⟨h, rfl, rfl, rfl, Nat.le_refl _, fun _ _ _ => rfl⟩
  | cons v r ih =>
    intro w base e g n cap o xs h
    obtain ⟨h1, g1⟩ := h.stored o v
    obtain ⟨h2, g2⟩ := ih _ base e g n cap (o + 1) _ h1
    refine ⟨h2, g2.os.trans g1.os, g2.tape.trans g1.tape, g2.output.trans g1.output, Nat.le_trans g1.size g2.size, fun k hk hne => ?_⟩
    rw [World.setCells, g2.block k (Nat.lt_of_lt_of_le hk g1.size) hne, g1.block k hk hne]
theorem own_take {w : World} {base e g n cap : Nat} {xs : List Value} (h : w.ownsRow base e 1 (.slice (some ⟨g, 0, none⟩) n cap) n xs) (m : Nat) (hm : m ≤ n) : w.ownsRow base e 1 (.slice (some ⟨g, 0, none⟩) m cap) m (xs.take m) := by
  have hl := h.1
  rcases h.2 with ⟨h', _⟩ | ⟨g', cap', cur, h', hb, hg, hnc, hcm, hcs, htake⟩
  · simp at h'
  · simp only [Value.slice.injEq, Option.some.injEq, Addr.mk.injEq, and_true, true_and] at h'
    obtain ⟨rfl, rfl⟩ := h'
    refine ⟨by rw [List.length_take]; omega, .inr ⟨g, cap, cur, rfl, hb, hg, by omega, hcm, hcs, ?_⟩⟩
    rw [← htake, List.take_take, Nat.mul_one, Nat.mul_one, Nat.min_eq_left hm]
theorem cut_row {A W w : World} {g n cap k : Nat} {zs ts : List Int} {c : Int} (h : Bf A W w (.slice (some ⟨g, 0, none⟩) n cap) (zs ++ c :: ts)) (hn : n = zs.length + 1 + ts.length) (hk : k = zs.length) :
    Bf A W (w.setCells g (0 + k * 1) (ts.map (Value.int .u8))) (.slice (some ⟨g, 0, none⟩) (k + ts.length) cap) (zs ++ ts) := by
  subst hk
  have hl : (zs ++ c :: ts).length = n := by rw [List.length_append, List.length_cons]; omega
  have h0 := h.1
  rw [hl] at h0
  obtain ⟨h1, g1⟩ := stored_many (ts.map (Value.int .u8)) w _ _ g n cap (0 + zs.length * 1) _ h0
  have h2 := own_take h1 (zs.length + ts.length) (by omega)
  have h3 := setL_take (ts.map (Value.int .u8)) ((zs ++ c :: ts).map (Value.int .u8)) (0 + zs.length * 1) (by simp)
  have e : ((zs ++ c :: ts).map (Value.int .u8)).take (0 + zs.length * 1) = zs.map (Value.int .u8) := by
    rw [List.map_append, Nat.zero_add, Nat.mul_one]
    exact List.take_left' (by simp)
  rw [e, List.length_map, Nat.zero_add, Nat.mul_one] at h3
  rw [Nat.zero_add, Nat.mul_one] at h2
  rw [h3, ← List.map_append] at h2
  refine ⟨?_, h.2.trans' (v := .slice (some ⟨g, 0, none⟩) n cap) g1 (own_lt_b h.1), h.3.trans (K8.grown h.1 g1)⟩
  rw [List.length_append, Nat.zero_add, Nat.mul_one]
  exact h2
end Go.Proofs.YtbigjeejmacjcaaGreatDoor
