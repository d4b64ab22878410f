/- Where two ways up meet; what is nearest is moved up. -/
import Derived.Test.YthammngddmkhhaaZ6
namespace Go.Proofs.Ythammngddmkhhaa
open Go.RowKit

def pf (ne : List Int) : Nat → Nat := fun i => (ng ne i).toNat
def rf (rk : List Nat) : Nat → Nat := fun i => rk.getD i 0
/-- What is nearest so far: ways up for all that are reached. -/
structure NInv (E : Nat → Nat → Prop) (n : Nat) (rk : List Nat) (ne : List Int) : Prop where
  tree : Tree E (pf ne) (rf rk)
  yes : ∀ i, Rd E i → i ≠ 0 → ng ne i = ((pf ne i : Nat) : Int)
  no : ∀ i, i < n → ¬ (Rd E i ∧ i ≠ 0) → ng ne i = -1
  lt : ∀ i, Rd E i → i < n
def MeetP (E : Nat → Nat → Prop) (ne : List Int) (w : World) (a b : Nat) (e : Ending) (w' : World) : Prop := ∃ (u m : Nat), e = .returned (.int .i64 (u : Int)) ∧ Rd E u ∧ An (pf ne) u a ∧ An (pf ne) u b ∧ (∀ d, Dm E d a → Dm E d b → Dm E d u) ∧ w' = w.drewN m
set_option maxRecDepth 20000 in
set_option maxHeartbeats 4000000 in
theorem meet_any {E : Nat → Nat → Prop} {W w : World} {B K gs gr gn : Nat} {bv ov : Value} {n : Nat} {sn : List Bool} {od rk : List Nat} {ne : List Int} (h : Wf W w B K gs gr gn bv ov n sn od rk ne) (hn : n ≤ 400) (hI : NInv E n rk ne) (a b : Nat) (ha : Rd E a) (hb : Rd E b) :
    Calls Try.prog 40 #[.pointer (some ⟨K, 0, none⟩), .int .i64 (a : Int), .int .i64 (b : Int)] w (MeetP E ne w a b) := by
  obtain ⟨y0, y1, y2, y3, y4, y5⟩ := h.cells
  have hni : (n : Int) ≤ 400 := by omega
  have HR : Hid (∀ i, Rd E i → w.cell? ⟨gr, i, none⟩ = some (.int .i64 ((rf rk i : Nat) : Int)) ∧ i < n) := fun i hi => ⟨(h.xr.at_ i (by rw [h.rl]; exact hI.lt i hi)).1, hI.lt i hi⟩
  have HN : Hid (∀ i, Rd E i → i ≠ 0 → w.cell? ⟨gn, i, none⟩ = some (.int .i64 ((pf ne i : Nat) : Int))) := fun i hi hz => by
    have := (h.xn.at_ i (by rw [h.nl]; exact hI.lt i hi)).1
    rw [this, ← hI.yes i hi hz]
    rfl
  have HA : Hid (∀ (u m : Nat), Rd E u → An (pf ne) u a → An (pf ne) u b → (∀ d, Dm E d a → Dm E d b → Dm E d u) → MeetP E ne w a b (.returned (.int .i64 (u : Int))) (w.drewN m)) := fun u m h1 h2 h3 h4 => ⟨u, m, rfl, h1, h2, h3, h4, rfl⟩
  have HT := hI.tree
  generalize hQ : MeetP E ne w a b = Q at *
  clear hQ h hI
  go_enter Try.func40, Try.ntmps40
  go_wp2_with fail
  go_loopw [1, 2] (fun i j wr => ∃ (p q m : Nat), i = .int .i64 (p : Int) ∧ j = .int .i64 (q : Int) ∧ Rd E p ∧ Rd E q ∧ An (pf ne) p a ∧ An (pf ne) q b ∧ Hid (∀ d, Dm E d a → Dm E d b → Dm E d p ∧ Dm E d q) ∧ wr = w.drewN m) (fun i j _ => rf rk (intOf i).toNat + rf rk (intOf j).toNat)
  case atStart => exact ⟨a, b, 0, rfl, rfl, ha, hb, .refl _, .refl _, fun d h1 h2 => ⟨h1, h2⟩, rfl⟩
  case round =>
    obtain ⟨p, q, m, rfl, rfl, hp, hq, hpa, hqb, hd, rfl⟩ := hrel
    by_cases hpq : p = q
    · subst hpq
      have hne : ((p : Int) != (p : Int)) = false := by simp
      have HB := fun m => HA.out p m hp hpa hqb (fun d h1 h2 => (hd.out d h1 h2).1)
      have HB' : Hid (∀ m, Q (.returned (.int .i64 (p : Int))) (w.drewN m)) := HB
      clear HB HA HR HN hd
      go_wp2_with fail
      exact HB'.out _
    · have hne : ((p : Int) != (q : Int)) = true := by simp; omega
      obtain ⟨c1, hpn⟩ := HR.out p hp
      obtain ⟨c2, hqn⟩ := HR.out q hq
      have ip : (p : Int) < (n : Int) := by omega
      have iq : (q : Int) < (n : Int) := by omega
      by_cases hr : rf rk q < rf rk p
      · obtain ⟨hz, hm⟩ := HT.meet hp hq hr
        obtain ⟨hpp, hpr⟩ := HT.par p hp hz
        have c3 := HN.out p hp hz
        have hd2 : Hid (∀ d, Dm E d a → Dm E d b → Dm E d (pf ne p) ∧ Dm E d q) := fun d h1 h2 => ⟨hm d (hd.out d h1 h2).1 (hd.out d h1 h2).2, (hd.out d h1 h2).2⟩
        have han : An (pf ne) (pf ne p) a := (An.up hz (.refl _) : An (pf ne) (pf ne p) p).trans hpa
        obtain ⟨X, hX⟩ := hid_ex2 (rf rk p)
        obtain ⟨Y, hY⟩ := hid_ex2 (rf rk q)
        obtain ⟨Z, hZ⟩ := hid_ex2 (pf ne p)
        rw [← hX.out] at c1
        rw [← hY.out] at c2
        rw [← hZ.out] at c3
        have i3 : (Y : Int) < (X : Int) := by have := hX.out; have := hY.out; omega
        clear HA HR HN hd hm
        go_wp2_with fail
        go_quiet (fail)
        go_wp2_with fail
        go_roundw
        case rel => exact ⟨Z, q, _, rfl, rfl, by rw [hZ.out]; exact hpp, hq, by rw [hZ.out]; exact han, hqb, by rw [hZ.out]; exact hd2, rfl⟩
        case measure => simp [intOf]; rw [hZ.out]; omega
      · have hr2 : rf rk p < rf rk q := by
          rcases Nat.lt_or_ge (rf rk p) (rf rk q) with z | z
          · exact z
          · exact absurd (HT.inj p q hp hq (by omega)) hpq
        obtain ⟨hz, hm⟩ := HT.meet hq hp hr2
        obtain ⟨hpp, hpr⟩ := HT.par q hq hz
        have c3 := HN.out q hq hz
        have hd2 : Hid (∀ d, Dm E d a → Dm E d b → Dm E d p ∧ Dm E d (pf ne q)) := fun d h1 h2 => ⟨(hd.out d h1 h2).1, hm d (hd.out d h1 h2).2 (hd.out d h1 h2).1⟩
        have han : An (pf ne) (pf ne q) b := (An.up hz (.refl _) : An (pf ne) (pf ne q) q).trans hqb
        obtain ⟨X, hX⟩ := hid_ex2 (rf rk p)
        obtain ⟨Y, hY⟩ := hid_ex2 (rf rk q)
        obtain ⟨Z, hZ⟩ := hid_ex2 (pf ne q)
        rw [← hX.out] at c1
        rw [← hY.out] at c2
        rw [← hZ.out] at c3
        have i3 : ¬ (Y : Int) < (X : Int) := by have := hX.out; have := hY.out; omega
        have i4 : decide ((Y : Int) < (X : Int)) = false := decide_eq_false i3
        clear HA HR HN hd hm
        go_wp2_with fail
        go_quiet (fail)
        go_wp2_with fail
        go_roundw
        case rel => exact ⟨p, Z, _, rfl, rfl, hp, by rw [hZ.out]; exact hpp, hpa, by rw [hZ.out]; exact han, by rw [hZ.out]; exact hd2, rfl⟩
        case measure => simp [intOf]; rw [hZ.out]; omega
end Go.Proofs.Ythammngddmkhhaa
