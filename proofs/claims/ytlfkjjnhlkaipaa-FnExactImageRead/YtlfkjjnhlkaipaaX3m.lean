/- Exact marks over lists of structs, maps and codes, and over an image. -/
import Derived.Test.YtlfkjjnhlkaipaaX2m
namespace Go.Proofs.Ytlfkjjnhlkaipaa
open Go.RowKit

def Bs.mk1 (k : Int) (x : Bs) : Bs := .mk (mks Bo.mk1 Bo.c1 k x.l)
def Bs.c1 (x : Bs) : Nat := 1 * x.l.length
def Ma.mk1 (k : Int) (x : Ma) : Ma := .mk k (mks In.mk1 In.c1 (k + 1) x.slots)
def Ma.c1 (x : Ma) : Nat := 1 + 1 * x.slots.length
def Cd.mk1 (k : Int) (x : Cd) : Cd := .mk k (k + 1) (mks Is.mk1 Is.c1 (k + 1 + 1) x.ins) (mks Ma.mk1 Ma.c1 (k + 1 + 1 + 5 * (x.ins.length : Int)) x.maps)
def Cd.c1 (x : Cd) : Nat := 2 + 5 * x.ins.length + cnt Ma.c1 x.maps
theorem Bs.dats_get (L : List Bs) (j : Nat) (h : j < (Bs.dats L).length) (h' : j < L.length) : (Bs.dats L)[j] = Bs.dat L[j] := Bs.dats_at L j h' h
theorem Ma.dats_get (L : List Ma) (j : Nat) (h : j < (Ma.dats L).length) (h' : j < L.length) : (Ma.dats L)[j] = Ma.dat L[j] := Ma.dats_at L j h' h
theorem Cd.dats_get (L : List Cd) (j : Nat) (h : j < (Cd.dats L).length) (h' : j < L.length) : (Cd.dats L)[j] = Cd.dat L[j] := Cd.dats_at L j h' h
theorem Bs.dats_set : ∀ (L : List Bs) (j : Nat) (x : Bs), Bs.dats (L.set j x) = (Bs.dats L).set j (Bs.dat x)
  | [], _, _ => rfl
  | y :: r, 0, x => by rw [List.set_cons_zero, Bs.dats, Bs.dats, List.set_cons_zero]
  | y :: r, j + 1, x => by rw [List.set_cons_succ, Bs.dats, Bs.dats, List.set_cons_succ, Bs.dats_set r j x]
theorem Ma.dats_set : ∀ (L : List Ma) (j : Nat) (x : Ma), Ma.dats (L.set j x) = (Ma.dats L).set j (Ma.dat x)
  | [], _, _ => rfl
  | y :: r, 0, x => by rw [List.set_cons_zero, Ma.dats, Ma.dats, List.set_cons_zero]
  | y :: r, j + 1, x => by rw [List.set_cons_succ, Ma.dats, Ma.dats, List.set_cons_succ, Ma.dats_set r j x]
theorem Cd.dats_set : ∀ (L : List Cd) (j : Nat) (x : Cd), Cd.dats (L.set j x) = (Cd.dats L).set j (Cd.dat x)
  | [], _, _ => rfl
  | y :: r, 0, x => by rw [List.set_cons_zero, Cd.dats, Cd.dats, List.set_cons_zero]
  | y :: r, j + 1, x => by rw [List.set_cons_succ, Cd.dats, Cd.dats, List.set_cons_succ, Cd.dats_set r j x]
theorem Bs.ownView {w : World} {x : Bs} {cs : List Value} {F : List Nat} (h : OwnD w x.dat cs F) : ∃ a c, cs = [.slice a x.l.length c] ∧ OwnD w (.list 1 (Bo.dats x.l)) [.slice a x.l.length c] F := by
  obtain ⟨l⟩ := x
  rw [Bs.dat, OwnD, OwnAgg] at h
  obtain ⟨c3, c4, F3, F4, rfl, rfl, h3, h⟩ := h
  rw [OwnAgg] at h
  obtain ⟨rfl, rfl⟩ := h
  have h2 := h3
  rw [OwnD] at h2
  obtain ⟨a, c, rfl, _⟩ := h2
  rw [Bo.dats_len] at h3 ⊢
  refine ⟨a, c, rfl, ?_⟩
  rw [List.append_nil]
  exact h3
theorem Ma.ownView {w : World} {x : Ma} {cs : List Value} {F : List Nat} (h : OwnD w x.dat cs F) : ∃ a c, cs = [.int .i64 x.pc, .slice a x.slots.length c] ∧ OwnD w (.list 1 (In.dats x.slots)) [.slice a x.slots.length c] F := by
  obtain ⟨pc, l⟩ := x
  rw [Ma.dat, OwnD, OwnAgg] at h
  obtain ⟨c1, c2, F1, F2, rfl, rfl, h1, h⟩ := h
  rw [OwnD] at h1
  obtain ⟨rfl, rfl⟩ := h1
  rw [OwnAgg] at h
  obtain ⟨c3, c4, F3, F4, rfl, rfl, h3, h⟩ := h
  rw [OwnAgg] at h
  obtain ⟨rfl, rfl⟩ := h
  have h2 := h3
  rw [OwnD] at h2
  obtain ⟨a, c, rfl, _⟩ := h2
  rw [In.dats_len] at h3 ⊢
  refine ⟨a, c, rfl, ?_⟩
  rw [List.nil_append, List.append_nil]
  exact h3
theorem Cd.ownView {w : World} {x : Cd} {cs : List Value} {F : List Nat} (h : OwnD w x.dat cs F) : ∃ a c a' c' F1 F2, cs = [.int .i64 x.frame, .int .i64 x.params, .slice a x.ins.length c, .slice a' x.maps.length c'] ∧ F = F1 ++ F2 ∧ OwnD w (.list 5 (Is.dats x.ins)) [.slice a x.ins.length c] F1 ∧ OwnD w (.list 2 (Ma.dats x.maps)) [.slice a' x.maps.length c'] F2 := by
  obtain ⟨f, p, is, ms⟩ := x
  rw [Cd.dat, OwnD, OwnAgg] at h
  obtain ⟨c1, c2, F1, F2, rfl, rfl, h1, h⟩ := h
  rw [OwnD] at h1
  obtain ⟨rfl, rfl⟩ := h1
  rw [OwnAgg] at h
  obtain ⟨c3, c4, F3, F4, rfl, rfl, h3, h⟩ := h
  rw [OwnD] at h3
  obtain ⟨rfl, rfl⟩ := h3
  rw [OwnAgg] at h
  obtain ⟨c5, c6, F5, F6, rfl, rfl, h5, h⟩ := h
  rw [OwnAgg] at h
  obtain ⟨c7, c8, F7, F8, rfl, rfl, h7, h⟩ := h
  rw [OwnAgg] at h
  obtain ⟨rfl, rfl⟩ := h
  have k5 := h5
  have k7 := h7
  rw [OwnD] at k5 k7
  obtain ⟨a, c, rfl, _⟩ := k5
  obtain ⟨a', c', rfl, _⟩ := k7
  rw [Is.dats_len] at h5 ⊢
  rw [Ma.dats_len] at h7 ⊢
  exact ⟨a, c, a', c', F5, F7, rfl, by simp, h5, h7⟩
/-- Other blocks were written. -/
theorem Own.only {base : Nat} {w w' : World} {d : Dat} {cs : List Value} {F G : List Nat} (h : Own base w d cs F) (ho : OnlyF G w w') (hs : ∀ b ∈ F, b ∉ G) : Own base w' d cs F :=
  Own.mk' (OwnD.agree ho.size d h.own (fun b hb => ho.block b (h.fresh b hb).2 (hs b hb))) (h.fr.mono (Nat.le_refl _) ho.size)
set_option maxHeartbeats 4000000 in
theorem markMas_x {base : Nat} (v : Value) (l : List Ma) (k : Int) (w : World) {F : List Nat} (h : Own base w (.list 2 (Ma.dats l)) [v] F) (h0 : 0 ≤ k) (h1 : k + cnt Ma.c1 l ≤ 4611686018427387904) :
    Calls Try.prog 61 #[v, .int .i64 k] w (MxP base w v 2 (Ma.dats (mks Ma.mk1 Ma.c1 k l)) F (k + cnt Ma.c1 l)) := by
  have HZ : Hid (∀ w' k', k' = k + cnt Ma.c1 l → Own base w' (.list 2 (Ma.dats (mid Ma.mk1 Ma.c1 k l l.length))) [v] F → OnlyF F w w' → MxP base w v 2 (Ma.dats (mks Ma.mk1 Ma.c1 k l)) F (k + cnt Ma.c1 l) (.returned (.int .i64 k')) w') := fun w' k' e o f => by rw [mid_all] at o; rw [e]; exact ⟨rfl, o, f⟩
  have hcl : ∀ j, j ≤ l.length → cnt Ma.c1 (l.take j) ≤ cnt Ma.c1 l := fun j hj => by
    have := cnt_app Ma.c1 (l.take j) (l.drop j)
    rw [List.take_append_drop] at this
    omega
  generalize MxP base w v 2 (Ma.dats (mks Ma.mk1 Ma.c1 k l)) F (k + cnt Ma.c1 l) = Q at *
  obtain ⟨a, cap, rfl, hl⟩ := Ma.slice (RdL.iff.1 h.rd |>.elim fun _ q => by obtain ⟨q1, q2⟩ := q; cases q1; exact q2)
  go_enter Try.func61, Try.ntmps61
  go_wp2_with fail
  go_loopw [1, 5] (fun kv i wr => ∃ (j : Nat) (kk : Int), kv = .int .i64 kk ∧ i = .int .i64 (j : Int) ∧ j ≤ l.length ∧ Own base wr (.list 2 (Ma.dats (mid Ma.mk1 Ma.c1 k l j))) [.slice a l.length cap] F ∧ OnlyF F w wr ∧ Hid (kk = k + cnt Ma.c1 (l.take j))) (fun _ i _ => l.length - (intOf i).toNat)
  case atStart => exact ⟨0, k, rfl, rfl, Nat.zero_le _, h, OnlyF.refl _ _, by show k = k + ((0 : Nat) : Int); omega⟩
  case round =>
    clear h
    obtain ⟨j, kk, rfl, rfl, hj, hO, hF, HK⟩ := hrel
    by_cases hlt : j < l.length
    · have hi : (j : Int) < (l.length : Int) := by omega
      have hml : j < (mid Ma.mk1 Ma.c1 k l j).length := by rw [mid_len]; exact hlt
      obtain ⟨g, cap', cs, Fj, e, hgF, hFj, hnd, hbg, hgl, hck, hcc, hOj, HC⟩ := hO.lens j (by rw [Ma.dats_len]; exact hml)
      rw [Ma.dats_get _ _ _ hml, mid_at _ _ _ _ hlt] at hOj
      have hfj := hOj.fresh
      obtain ⟨a0, p0, rfl, ho0⟩ := Ma.ownView hOj.own
      obtain ⟨G0, hG0⟩ : ∃ G, G = Fj := ⟨_, rfl⟩
      subst hG0
      have hi0 : ∀ b ∈ G0, b ∈ G0 := fun _ q => q
      have hn0 := hnd
      simp only [Value.slice.injEq] at e
      obtain ⟨rfl, he, rfl⟩ := e
      clear he
      have hcs := cnt_succ Ma.c1 hlt
      have hcb := hcl (j + 1) (by omega)
      have hc1 : Ma.c1 l[j] = Ma.c1 l[j] := rfl
      unfold Ma.c1 at hc1
      have HKN : Hid ((kk : Int) = k + cnt Ma.c1 (l.take j)) := HK
      have kk0 : 0 ≤ kk := by rw [HK.out]; omega
      have hce : ((Ma.c1 l[j] : Nat) : Int) = (0 + 1 + 1 * (l[j].slots.length : Int) : Int) := by unfold Ma.c1; omega
      have kk1 : kk + 1 + 1 * (l[j].slots.length : Int) ≤ 4611686018427387904 := by have := HK.out; omega
      have HEND : Hid (kk + 1 + 1 * (l[j].slots.length : Int) = k + cnt Ma.c1 (l.take (j + 1))) := by show _ = _; have := HK.out; omega
      have E0 : Eb wr wr g (j * 2) [.int .i64 l[j].pc, .slice a0 l[j].slots.length p0] := ⟨hgl, hcc, fun _ _ => ⟨rfl, rfl⟩⟩
      have E1 := E0.set 0 (.int .i64 (kk)) (by simp)
      have o0 : OnlyF (g :: []) wr (wr.setCell ⟨g, j * 2 + 0, none⟩ (.int .i64 (kk))) := by repeat (first | with_reducible exact OnlyF.refl _ _ | refine OnlyF.set ?_ _ (List.mem_cons_self ..))
      have hs0 : Own base (wr.setCell ⟨g, j * 2 + 0, none⟩ (.int .i64 (kk))) (.list 1 (In.dats l[j].slots)) [.slice a0 l[j].slots.length p0] G0 := Own.only (Own.mk' ho0 ⟨hn0, fun b hb => hfj b (hi0 b hb)⟩) o0 (fun b hb q => (hFj b (hi0 b hb)).2 (List.mem_singleton.1 q))
      have c0 := (E0.cell 0 _ rfl).1
      have c1 := (E0.cell 1 _ rfl).1
      have f0 := (E0.cell 0 _ rfl).2
      rw [Nat.add_zero] at c0 f0
      obtain ⟨wa, hwa⟩ := hidx0 (wr.setCell ⟨g, j * 2 + 0, none⟩ (.int .i64 (kk)))
      have hga : g < wa.heap.size := by rw [hwa.out]; simpa using hgl
      rw [← hwa.out] at o0 hs0 E1
      have d0 := (E1.cell 0 _ rfl).1
      have d1 := (E1.cell 1 _ rfl).1
      rw [Nat.add_zero] at d0
      have HWA : Hid (wa = (wr.setCell ⟨g, j * 2, none⟩ (.int .i64 (kk)))) := by have := hwa.out; rw [Nat.add_zero] at this; exact this
      clear HZ hcl hO hOj hcc hck hfj hce hc1
      go_wp2_with fail
      rw [← HWA.out]
      refine (markIns_x _ _ (kk + 1) _ hs0 (by omega) (by omega)).mono ?_
      rintro e w1 ⟨rfl, t0, u0⟩
      have E2 := E1.only u0 (fun z => (hFj g (hi0 g z)).2 rfl)
      have g0 : g < w1.heap.size := E2.lt
      have x01 := (E2.cell 1 _ rfl).1
      have oF : OnlyF (g :: (G0)) wr w1 := ((o0.mono (fun x hx => by rw [List.mem_singleton.1 hx]; exact List.mem_cons_self ..)).trans (u0.mono (fun x hx => List.mem_cons_of_mem _ (hi0 x hx))))
      have HN : Hid (Own base w1 (.list 2 (Ma.dats (mid Ma.mk1 Ma.c1 k l (j + 1)))) [.slice (some ⟨g, 0, none⟩) l.length cap] F ∧ OnlyF F w w1) := by
        refine ⟨?_, hF.trans (oF.mono (fun x hx => by rcases List.mem_cons.1 hx with rfl | hx; exact hgF; exact (hFj x hx).1))⟩
        rw [mid_succ _ _ _ _ hlt, Ma.dats_set, ← HKN.out]
        exact HC _ _ [.int .i64 (kk), .slice a0 l[j].slots.length p0] rfl (fun m u hm => E2.cell m u hm) (Ma.own (x := Ma.mk1 kk l[j]) t0.own) oF (fun o ho => E2.out o (by simp only [List.length_set, List.length_cons, List.length_nil] at *; omega))
      clear HC t0 u0 oF o0
      go_wp2_with fail
      go_roundw
      case rel => exact ⟨j + 1, _, rfl, by go_num, by omega, HN.out.1, HN.out.2, by have := HEND.out; show _ = _; omega⟩
      case measure => simp [intOf]; omega
    · have hlt' : decide ((j : Int) < (l.length : Int)) = false := by simp; omega
      have hjn : j = l.length := by omega
      subst hjn
      have HQ : Hid _ := HZ.out wr kk (by have := HK.out; rw [List.take_length] at this; exact this) hO hF
      clear HZ hO hF hcl HK
      go_wp2_with fail
      exact HQ.out
set_option maxHeartbeats 4000000 in
theorem markBss_x {base : Nat} (v : Value) (l : List Bs) (k : Int) (w : World) {F : List Nat} (h : Own base w (.list 1 (Bs.dats l)) [v] F) (h0 : 0 ≤ k) (h1 : k + cnt Bs.c1 l ≤ 4611686018427387904) :
    Calls Try.prog 32 #[v, .int .i64 k] w (MxP base w v 1 (Bs.dats (mks Bs.mk1 Bs.c1 k l)) F (k + cnt Bs.c1 l)) := by
  have HZ : Hid (∀ w' k', k' = k + cnt Bs.c1 l → Own base w' (.list 1 (Bs.dats (mid Bs.mk1 Bs.c1 k l l.length))) [v] F → OnlyF F w w' → MxP base w v 1 (Bs.dats (mks Bs.mk1 Bs.c1 k l)) F (k + cnt Bs.c1 l) (.returned (.int .i64 k')) w') := fun w' k' e o f => by rw [mid_all] at o; rw [e]; exact ⟨rfl, o, f⟩
  have hcl : ∀ j, j ≤ l.length → cnt Bs.c1 (l.take j) ≤ cnt Bs.c1 l := fun j hj => by
    have := cnt_app Bs.c1 (l.take j) (l.drop j)
    rw [List.take_append_drop] at this
    omega
  generalize MxP base w v 1 (Bs.dats (mks Bs.mk1 Bs.c1 k l)) F (k + cnt Bs.c1 l) = Q at *
  obtain ⟨a, cap, rfl, hl⟩ := Bs.slice (RdL.iff.1 h.rd |>.elim fun _ q => by obtain ⟨q1, q2⟩ := q; cases q1; exact q2)
  go_enter Try.func32, Try.ntmps32
  go_wp2_with fail
  go_loopw [1, 5] (fun kv i wr => ∃ (j : Nat) (kk : Int), kv = .int .i64 kk ∧ i = .int .i64 (j : Int) ∧ j ≤ l.length ∧ Own base wr (.list 1 (Bs.dats (mid Bs.mk1 Bs.c1 k l j))) [.slice a l.length cap] F ∧ OnlyF F w wr ∧ Hid (kk = k + cnt Bs.c1 (l.take j))) (fun _ i _ => l.length - (intOf i).toNat)
  case atStart => exact ⟨0, k, rfl, rfl, Nat.zero_le _, h, OnlyF.refl _ _, by show k = k + ((0 : Nat) : Int); omega⟩
  case round =>
    clear h
    obtain ⟨j, kk, rfl, rfl, hj, hO, hF, HK⟩ := hrel
    by_cases hlt : j < l.length
    · have hi : (j : Int) < (l.length : Int) := by omega
      have hml : j < (mid Bs.mk1 Bs.c1 k l j).length := by rw [mid_len]; exact hlt
      obtain ⟨g, cap', cs, Fj, e, hgF, hFj, hnd, hbg, hgl, hck, hcc, hOj, HC⟩ := hO.lens j (by rw [Bs.dats_len]; exact hml)
      rw [Bs.dats_get _ _ _ hml, mid_at _ _ _ _ hlt] at hOj
      have hfj := hOj.fresh
      obtain ⟨a0, p0, rfl, ho0⟩ := Bs.ownView hOj.own
      obtain ⟨G0, hG0⟩ : ∃ G, G = Fj := ⟨_, rfl⟩
      subst hG0
      have hi0 : ∀ b ∈ G0, b ∈ G0 := fun _ q => q
      have hn0 := hnd
      simp only [Value.slice.injEq] at e
      obtain ⟨rfl, he, rfl⟩ := e
      clear he
      have hcs := cnt_succ Bs.c1 hlt
      have hcb := hcl (j + 1) (by omega)
      have hc1 : Bs.c1 l[j] = Bs.c1 l[j] := rfl
      unfold Bs.c1 at hc1
      have HKN : Hid ((kk : Int) = k + cnt Bs.c1 (l.take j)) := HK
      have kk0 : 0 ≤ kk := by rw [HK.out]; omega
      have hce : ((Bs.c1 l[j] : Nat) : Int) = (0 + 1 * (l[j].l.length : Int) : Int) := by unfold Bs.c1; omega
      have kk1 : kk + 1 * (l[j].l.length : Int) ≤ 4611686018427387904 := by have := HK.out; omega
      have HEND : Hid (kk + 1 * (l[j].l.length : Int) = k + cnt Bs.c1 (l.take (j + 1))) := by show _ = _; have := HK.out; omega
      have E0 : Eb wr wr g (j * 1) [.slice a0 l[j].l.length p0] := ⟨hgl, hcc, fun _ _ => ⟨rfl, rfl⟩⟩
      have o0 : OnlyF (g :: []) wr wr := by repeat (first | with_reducible exact OnlyF.refl _ _ | refine OnlyF.set ?_ _ (List.mem_cons_self ..))
      have hs0 : Own base wr (.list 1 (Bo.dats l[j].l)) [.slice a0 l[j].l.length p0] G0 := Own.only (Own.mk' ho0 ⟨hn0, fun b hb => hfj b (hi0 b hb)⟩) o0 (fun b hb q => (hFj b (hi0 b hb)).2 (List.mem_singleton.1 q))
      have c0 := (E0.cell 0 _ rfl).1
      rw [Nat.mul_one, Nat.add_zero] at c0
      have d0 := (E0.cell 0 _ rfl).1
      rw [Nat.mul_one, Nat.add_zero] at d0
      clear HZ hcl hO hOj hcc hck hfj hce hc1
      go_wp2_with fail
      refine (markBos_x _ _ (kk) _ hs0 (by omega) (by omega)).mono ?_
      rintro e w1 ⟨rfl, t0, u0⟩
      have E1 := E0.only u0 (fun z => (hFj g (hi0 g z)).2 rfl)
      have g0 : g < w1.heap.size := E1.lt
      have x00 := (E1.cell 0 _ rfl).1
      rw [Nat.mul_one, Nat.add_zero] at x00
      have oF : OnlyF (g :: (G0)) wr w1 := ((o0.mono (fun x hx => by rw [List.mem_singleton.1 hx]; exact List.mem_cons_self ..)).trans (u0.mono (fun x hx => List.mem_cons_of_mem _ (hi0 x hx))))
      have HN : Hid (Own base w1 (.list 1 (Bs.dats (mid Bs.mk1 Bs.c1 k l (j + 1)))) [.slice (some ⟨g, 0, none⟩) l.length cap] F ∧ OnlyF F w w1) := by
        refine ⟨?_, hF.trans (oF.mono (fun x hx => by rcases List.mem_cons.1 hx with rfl | hx; exact hgF; exact (hFj x hx).1))⟩
        rw [mid_succ _ _ _ _ hlt, Bs.dats_set, ← HKN.out]
        exact HC _ _ [.slice a0 l[j].l.length p0] rfl (fun m u hm => E1.cell m u hm) (Bs.own (x := Bs.mk1 kk l[j]) t0.own) oF (fun o ho => E1.out o (by simp only [List.length_cons, List.length_nil] at *; omega))
      clear HC t0 u0 oF o0
      go_wp2_with fail
      go_roundw
      case rel => exact ⟨j + 1, _, rfl, by go_num, by omega, HN.out.1, HN.out.2, by have := HEND.out; show _ = _; omega⟩
      case measure => simp [intOf]; omega
    · have hlt' : decide ((j : Int) < (l.length : Int)) = false := by simp; omega
      have hjn : j = l.length := by omega
      subst hjn
      have HQ : Hid _ := HZ.out wr kk (by have := HK.out; rw [List.take_length] at this; exact this) hO hF
      clear HZ hO hF hcl HK
      go_wp2_with fail
      exact HQ.out
set_option maxHeartbeats 4000000 in
theorem markCds_x {base : Nat} (v : Value) (l : List Cd) (k : Int) (w : World) {F : List Nat} (h : Own base w (.list 4 (Cd.dats l)) [v] F) (h0 : 0 ≤ k) (h1 : k + cnt Cd.c1 l ≤ 4611686018427387904) :
    Calls Try.prog 33 #[v, .int .i64 k] w (MxP base w v 4 (Cd.dats (mks Cd.mk1 Cd.c1 k l)) F (k + cnt Cd.c1 l)) := by
  have HZ : Hid (∀ w' k', k' = k + cnt Cd.c1 l → Own base w' (.list 4 (Cd.dats (mid Cd.mk1 Cd.c1 k l l.length))) [v] F → OnlyF F w w' → MxP base w v 4 (Cd.dats (mks Cd.mk1 Cd.c1 k l)) F (k + cnt Cd.c1 l) (.returned (.int .i64 k')) w') := fun w' k' e o f => by rw [mid_all] at o; rw [e]; exact ⟨rfl, o, f⟩
  have hcl : ∀ j, j ≤ l.length → cnt Cd.c1 (l.take j) ≤ cnt Cd.c1 l := fun j hj => by
    have := cnt_app Cd.c1 (l.take j) (l.drop j)
    rw [List.take_append_drop] at this
    omega
  generalize MxP base w v 4 (Cd.dats (mks Cd.mk1 Cd.c1 k l)) F (k + cnt Cd.c1 l) = Q at *
  obtain ⟨a, cap, rfl, hl⟩ := Cd.slice (RdL.iff.1 h.rd |>.elim fun _ q => by obtain ⟨q1, q2⟩ := q; cases q1; exact q2)
  go_enter Try.func33, Try.ntmps33
  go_wp2_with fail
  go_loopw [1, 5] (fun kv i wr => ∃ (j : Nat) (kk : Int), kv = .int .i64 kk ∧ i = .int .i64 (j : Int) ∧ j ≤ l.length ∧ Own base wr (.list 4 (Cd.dats (mid Cd.mk1 Cd.c1 k l j))) [.slice a l.length cap] F ∧ OnlyF F w wr ∧ Hid (kk = k + cnt Cd.c1 (l.take j))) (fun _ i _ => l.length - (intOf i).toNat)
  case atStart => exact ⟨0, k, rfl, rfl, Nat.zero_le _, h, OnlyF.refl _ _, by show k = k + ((0 : Nat) : Int); omega⟩
  case round =>
    clear h
    obtain ⟨j, kk, rfl, rfl, hj, hO, hF, HK⟩ := hrel
    by_cases hlt : j < l.length
    · have hi : (j : Int) < (l.length : Int) := by omega
      have hml : j < (mid Cd.mk1 Cd.c1 k l j).length := by rw [mid_len]; exact hlt
      obtain ⟨g, cap', cs, Fj, e, hgF, hFj, hnd, hbg, hgl, hck, hcc, hOj, HC⟩ := hO.lens j (by rw [Cd.dats_len]; exact hml)
      rw [Cd.dats_get _ _ _ hml, mid_at _ _ _ _ hlt] at hOj
      have hfj := hOj.fresh
      obtain ⟨a0, p0, a1, p1, G0, G1, rfl, rfl, ho0, ho1⟩ := Cd.ownView hOj.own
      have hi0 : ∀ b ∈ G0, b ∈ G0 ++ G1 := fun _ q => List.mem_append_left _ q
      have hi1 : ∀ b ∈ G1, b ∈ G0 ++ G1 := fun _ q => List.mem_append_right _ q
      have hn0 := (List.nodup_append.1 hnd).1
      have hn1 := (List.nodup_append.1 hnd).2.1
      have hdis : ∀ b, b ∈ G0 → b ∉ G1 := fun b x y => (List.nodup_append.1 hnd).2.2 b x b y rfl
      simp only [Value.slice.injEq] at e
      obtain ⟨rfl, he, rfl⟩ := e
      clear he
      have hcs := cnt_succ Cd.c1 hlt
      have hcb := hcl (j + 1) (by omega)
      have hc1 : Cd.c1 l[j] = Cd.c1 l[j] := rfl
      unfold Cd.c1 at hc1
      have HKN : Hid ((kk : Int) = k + cnt Cd.c1 (l.take j)) := HK
      have kk0 : 0 ≤ kk := by rw [HK.out]; omega
      have hce : ((Cd.c1 l[j] : Nat) : Int) = (0 + 1 + 1 + 5 * (l[j].ins.length : Int) + (cnt Ma.c1 l[j].maps : Int) : Int) := by unfold Cd.c1; omega
      have kk1 : kk + 1 + 1 + 5 * (l[j].ins.length : Int) + (cnt Ma.c1 l[j].maps : Int) ≤ 4611686018427387904 := by have := HK.out; omega
      have HEND : Hid (kk + 1 + 1 + 5 * (l[j].ins.length : Int) + (cnt Ma.c1 l[j].maps : Int) = k + cnt Cd.c1 (l.take (j + 1))) := by show _ = _; have := HK.out; omega
      have E0 : Eb wr wr g (j * 4) [.int .i64 l[j].frame, .int .i64 l[j].params, .slice a0 l[j].ins.length p0, .slice a1 l[j].maps.length p1] := ⟨hgl, hcc, fun _ _ => ⟨rfl, rfl⟩⟩
      have E1 := E0.set 0 (.int .i64 (kk)) (by simp)
      have E2 := E1.set 1 (.int .i64 (kk + 1)) (by simp)
      have o0 : OnlyF (g :: []) wr ((wr.setCell ⟨g, j * 4 + 0, none⟩ (.int .i64 (kk))).setCell ⟨g, j * 4 + 1, none⟩ (.int .i64 (kk + 1))) := by repeat (first | with_reducible exact OnlyF.refl _ _ | refine OnlyF.set ?_ _ (List.mem_cons_self ..))
      have hs0 : Own base ((wr.setCell ⟨g, j * 4 + 0, none⟩ (.int .i64 (kk))).setCell ⟨g, j * 4 + 1, none⟩ (.int .i64 (kk + 1))) (.list 5 (Is.dats l[j].ins)) [.slice a0 l[j].ins.length p0] G0 := Own.only (Own.mk' ho0 ⟨hn0, fun b hb => hfj b (hi0 b hb)⟩) o0 (fun b hb q => (hFj b (hi0 b hb)).2 (List.mem_singleton.1 q))
      have hs1 : Own base ((wr.setCell ⟨g, j * 4 + 0, none⟩ (.int .i64 (kk))).setCell ⟨g, j * 4 + 1, none⟩ (.int .i64 (kk + 1))) (.list 2 (Ma.dats l[j].maps)) [.slice a1 l[j].maps.length p1] G1 := Own.only (Own.mk' ho1 ⟨hn1, fun b hb => hfj b (hi1 b hb)⟩) o0 (fun b hb q => (hFj b (hi1 b hb)).2 (List.mem_singleton.1 q))
      have c0 := (E0.cell 0 _ rfl).1
      have c1 := (E0.cell 1 _ rfl).1
      have c2 := (E0.cell 2 _ rfl).1
      have c3 := (E0.cell 3 _ rfl).1
      have f0 := (E0.cell 0 _ rfl).2
      have f1 := (E0.cell 1 _ rfl).2
      rw [Nat.add_zero] at c0 f0
      obtain ⟨wa, hwa⟩ := hidx0 ((wr.setCell ⟨g, j * 4 + 0, none⟩ (.int .i64 (kk))).setCell ⟨g, j * 4 + 1, none⟩ (.int .i64 (kk + 1)))
      have hga : g < wa.heap.size := by rw [hwa.out]; simpa using hgl
      rw [← hwa.out] at o0 hs0 hs1 E2
      have d0 := (E2.cell 0 _ rfl).1
      have d1 := (E2.cell 1 _ rfl).1
      have d2 := (E2.cell 2 _ rfl).1
      have d3 := (E2.cell 3 _ rfl).1
      rw [Nat.add_zero] at d0
      have HWA : Hid (wa = ((wr.setCell ⟨g, j * 4, none⟩ (.int .i64 (kk))).setCell ⟨g, j * 4 + 1, none⟩ (.int .i64 (kk + 1)))) := by have := hwa.out; rw [Nat.add_zero] at this; exact this
      clear HZ hcl hO hOj hcc hck hfj hce hc1
      go_wp2_with fail
      rw [← HWA.out]
      refine (markIss_x _ _ (kk + 1 + 1) _ hs0 (by omega) (by omega)).mono ?_
      rintro e w1 ⟨rfl, t0, u0⟩
      have E3 := E2.only u0 (fun z => (hFj g (hi0 g z)).2 rfl)
      have hs1 := hs1.only u0 (fun b hb z => hdis b z hb)
      have g0 : g < w1.heap.size := E3.lt
      have x02 := (E3.cell 2 _ rfl).1
      have x03 := (E3.cell 3 _ rfl).1
      go_wp2_with fail
      refine (markMas_x _ _ (kk + 1 + 1 + 5 * (l[j].ins.length : Int)) _ hs1 (by omega) (by omega)).mono ?_
      rintro e w2 ⟨rfl, t1, u1⟩
      have E4 := E3.only u1 (fun z => (hFj g (hi1 g z)).2 rfl)
      have t0 := t0.only u1 (fun b hb z => hdis b hb z)
      have g1 : g < w2.heap.size := E4.lt
      have x12 := (E4.cell 2 _ rfl).1
      have x13 := (E4.cell 3 _ rfl).1
      have oF : OnlyF (g :: (G0 ++ G1)) wr w2 := (((o0.mono (fun x hx => by rw [List.mem_singleton.1 hx]; exact List.mem_cons_self ..)).trans (u0.mono (fun x hx => List.mem_cons_of_mem _ (hi0 x hx)))).trans (u1.mono (fun x hx => List.mem_cons_of_mem _ (hi1 x hx))))
      have HN : Hid (Own base w2 (.list 4 (Cd.dats (mid Cd.mk1 Cd.c1 k l (j + 1)))) [.slice (some ⟨g, 0, none⟩) l.length cap] F ∧ OnlyF F w w2) := by
        refine ⟨?_, hF.trans (oF.mono (fun x hx => by rcases List.mem_cons.1 hx with rfl | hx; exact hgF; exact (hFj x hx).1))⟩
        rw [mid_succ _ _ _ _ hlt, Cd.dats_set, ← HKN.out]
        exact HC _ _ [.int .i64 (kk), .int .i64 (kk + 1), .slice a0 l[j].ins.length p0, .slice a1 l[j].maps.length p1] rfl (fun m u hm => E4.cell m u hm) (Cd.own (x := Cd.mk1 kk l[j]) t0.own t1.own) oF (fun o ho => E4.out o (by simp only [List.length_set, List.length_cons, List.length_nil] at *; omega))
      clear HC t0 u0 t1 u1 oF o0
      go_wp2_with fail
      go_roundw
      case rel => exact ⟨j + 1, _, rfl, by go_num, by omega, HN.out.1, HN.out.2, by have := HEND.out; show _ = _; omega⟩
      case measure => simp [intOf]; omega
    · have hlt' : decide ((j : Int) < (l.length : Int)) = false := by simp; omega
      have hjn : j = l.length := by omega
      subst hjn
      have HQ : Hid _ := HZ.out wr kk (by have := HK.out; rw [List.take_length] at this; exact this) hO hF
      clear HZ hO hF hcl HK
      go_wp2_with fail
      exact HQ.out
def Im.mk1 (k : Int) (x : Im) : Im := .mk (mks Bs.mk1 Bs.c1 k x.structs) (mks Cd.mk1 Cd.c1 (k + cnt Bs.c1 x.structs) x.codes) x.main
def Im.cn (x : Im) : Nat := cnt Bs.c1 x.structs + cnt Cd.c1 x.codes
theorem Im.ownView {w : World} {x : Im} {cs : List Value} {F : List Nat} (h : OwnD w x.dat cs F) : ∃ a c a' c' F1 F2, cs = [.slice a x.structs.length c, .slice a' x.codes.length c', .int .i64 x.main] ∧ F = F1 ++ F2 ∧ OwnD w (.list 1 (Bs.dats x.structs)) [.slice a x.structs.length c] F1 ∧ OwnD w (.list 4 (Cd.dats x.codes)) [.slice a' x.codes.length c'] F2 := by
  obtain ⟨is, ms, p⟩ := x
  rw [Im.dat, OwnD, OwnAgg] at h
  obtain ⟨c5, c6, F5, F6, rfl, rfl, h5, h⟩ := h
  rw [OwnAgg] at h
  obtain ⟨c7, c8, F7, F8, rfl, rfl, h7, h⟩ := h
  rw [OwnAgg] at h
  obtain ⟨c1, c2, F1, F2, rfl, rfl, h1, h⟩ := h
  rw [OwnD] at h1
  obtain ⟨rfl, rfl⟩ := h1
  rw [OwnAgg] at h
  obtain ⟨rfl, rfl⟩ := h
  have k5 := h5
  have k7 := h7
  rw [OwnD] at k5 k7
  obtain ⟨a, c, rfl, _⟩ := k5
  obtain ⟨a', c', rfl, _⟩ := k7
  rw [Bs.dats_len] at h5 ⊢
  rw [Cd.dats_len] at h7 ⊢
  exact ⟨a, c, a', c', F5, F7, rfl, by simp, h5, h7⟩
set_option maxHeartbeats 2000000 in
theorem markIm_x {base : Nat} (x : Im) (a a' : Option Addr) (c c' : Nat) (k : Int) (w : World) {F : List Nat} (h : Own base w x.dat [.slice a x.structs.length c, .slice a' x.codes.length c', .int .i64 x.main] F) (h0 : 0 ≤ k) (h1 : k + x.cn ≤ 4611686018427387904) :
    Calls Try.prog 14 #[.agg #[.slice a x.structs.length c, .slice a' x.codes.length c', .int .i64 x.main], .int .i64 k] w fun e w' => e = .returned (.int .i64 (k + x.cn)) ∧ Own base w' (Im.dat (x.mk1 k)) [.slice a x.structs.length c, .slice a' x.codes.length c', .int .i64 x.main] F ∧ OnlyF F w w' := by
  obtain ⟨b, d, b', d', F1, F2, e, rfl, ho1, ho2⟩ := Im.ownView h.own
  simp only [List.cons.injEq, Value.slice.injEq, and_true, true_and] at e
  obtain ⟨⟨rfl, rfl⟩, rfl, rfl⟩ := e
  have hn1 := (List.nodup_append.1 h.nodup).1
  have hn2 := (List.nodup_append.1 h.nodup).2.1
  have hdis : ∀ b, b ∈ F1 → b ∉ F2 := fun b x y => (List.nodup_append.1 h.nodup).2.2 b x b y rfl
  have hf := h.fresh
  obtain ⟨wa, hwa⟩ := hidx0 (w.alloc (.cells #[.slice a x.structs.length c, .slice a' x.codes.length c', .int .i64 x.main] 32))
  have la : Later w wa := by rw [hwa.out]; exact later1 _ _
  have q1 : Own base wa (.list 1 (Bs.dats x.structs)) [.slice a x.structs.length c] F1 := Own.later (Own.mk' ho1 ⟨hn1, fun b hb => hf b (List.mem_append_left _ hb)⟩) la
  have q2 : Own base wa (.list 4 (Cd.dats x.codes)) [.slice a' x.codes.length c'] F2 := Own.later (Own.mk' ho2 ⟨hn2, fun b hb => hf b (List.mem_append_right _ hb)⟩) la
  have hbn : w.heap.size ∉ F1 := fun z => by have := (hf _ (List.mem_append_left _ z)).2; omega
  have x1 : wa.cell? ⟨w.heap.size, 1, none⟩ = some (.slice a' x.codes.length c') := by rw [hwa.out]; simp
  have xl : w.heap.size < wa.heap.size := by rw [hwa.out]; simp
  have hcn : x.cn = cnt Bs.c1 x.structs + cnt Cd.c1 x.codes := rfl
  have HZ : Hid (∀ w' k', k' = k + x.cn → Own base w' (Im.dat (x.mk1 k)) [.slice a x.structs.length c, .slice a' x.codes.length c', .int .i64 x.main] (F1 ++ F2) → OnlyF (F1 ++ F2) w w' → (Ending.returned (.int .i64 k') = .returned (.int .i64 (k + x.cn)) ∧ Own base w' (Im.dat (x.mk1 k)) [.slice a x.structs.length c, .slice a' x.codes.length c', .int .i64 x.main] (F1 ++ F2) ∧ OnlyF (F1 ++ F2) w w')) := fun w' k' e o f => ⟨by rw [e], o, f⟩
  go_enter Try.func14, Try.ntmps14
  go_wp2_with fail
  rw [← hwa.out]
  refine (markBss_x _ _ k _ q1 h0 (by omega)).mono ?_
  rintro e w1 ⟨rfl, t1, u1⟩
  have y1 : w1.cell? ⟨w.heap.size, 1, none⟩ = some (.slice a' x.codes.length c') := by rw [World.cell?_of_block (a := ⟨w.heap.size, 1, none⟩) (u1.block _ xl hbn)]; exact x1
  have yl : w.heap.size < w1.heap.size := Nat.lt_of_lt_of_le xl u1.size
  have q3 := q2.only u1 (fun b hb z => hdis b z hb)
  go_wp2_with fail
  refine (markCds_x _ _ (k + cnt Bs.c1 x.structs) _ q3 (by omega) (by omega)).mono ?_
  rintro e w2 ⟨rfl, t2, u2⟩
  have t3 := t1.only u2 (fun b hb z => hdis b hb z)
  have hO : Own base w2 (Im.dat (x.mk1 k)) [.slice a x.structs.length c, .slice a' x.codes.length c', .int .i64 x.main] (F1 ++ F2) := Own.mk' (Im.own (x := x.mk1 k) t3.own t2.own) ⟨h.nodup, fun b hb => by have := hf b hb; have := la.size; have := u1.size; have := u2.size; omega⟩
  have oF : OnlyF (F1 ++ F2) w w2 := ((OnlyF.mk la.os la.tape la.output la.size (fun b hb _ => la.block b hb)).trans (u1.mono (fun b hb => List.mem_append_left _ hb))).trans (u2.mono (fun b hb => List.mem_append_right _ hb))
  have HQ := HZ.out w2 (k + cnt Bs.c1 x.structs + cnt Cd.c1 x.codes) (by omega) hO oF
  clear HZ hO oF t1 t2 t3 u1 u2
  go_wp2_with fail
  go_ret
  exact HQ
end Go.Proofs.Ytlfkjjnhlkaipaa
