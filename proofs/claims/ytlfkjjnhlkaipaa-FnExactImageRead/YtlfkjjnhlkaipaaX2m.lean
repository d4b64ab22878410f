/- Exact marks over lists of ints, bools and instructions. -/
import Derived.Test.YtlfkjjnhlkaipaaX1m
namespace Go.Proofs.Ytlfkjjnhlkaipaa
open Go.RowKit

/-- Cells of one element, since a world. -/
structure Eb (w0 w : World) (g o : Nat) (xs : List Value) : Prop where
  lt : g < w.heap.size
  cell : ∀ m u, xs[m]? = some u → w.cell? ⟨g, o + m, none⟩ = some u ∧ w.frozen? ⟨g, o + m, none⟩ = false
  out : ∀ q, q < o ∨ o + xs.length ≤ q → w.cell? ⟨g, q, none⟩ = w0.cell? ⟨g, q, none⟩ ∧ w.frozen? ⟨g, q, none⟩ = w0.frozen? ⟨g, q, none⟩
theorem Eb.set {w0 w : World} {g o : Nat} {xs : List Value} (h : Eb w0 w g o xs) (m : Nat) (v : Value) (hm : m < xs.length) : Eb w0 (w.setCell ⟨g, o + m, none⟩ v) g o (xs.set m v) := by
  refine ⟨by rw [World.size_setCell]; exact h.lt, fun j u hj => ?_, fun q hq => ?_⟩
  · rw [World.frozen?_setCell]
    by_cases e : j = m
    · subst e
      rw [List.getElem?_set_self hm] at hj
      cases hj
      have := h.cell j _ (List.getElem?_eq_getElem hm)
      exact ⟨set_same this.1, this.2⟩
    · rw [List.getElem?_set_ne (Ne.symm e)] at hj
      rw [set_off _ _ _ (show o + m ≠ o + j by omega)]
      exact h.cell j u hj
  · rw [List.length_set] at hq
    rw [World.frozen?_setCell, set_off _ _ _ (show o + m ≠ q by omega)]
    exact h.out q hq
theorem Eb.only {w0 w w' : World} {g o : Nat} {xs : List Value} {F : List Nat} (h : Eb w0 w g o xs) (ho : OnlyF F w w') (hg : g ∉ F) : Eb w0 w' g o xs := by
  have hb := ho.block g h.lt hg
  refine ⟨Nat.lt_of_lt_of_le h.lt ho.size, fun m u hm => ?_, fun q hq => ?_⟩
  · rw [World.cell?_of_block (w := w) (w' := w') (a := ⟨g, o + m, none⟩) hb, World.frozen?_of_block (w := w) (w' := w') (a := ⟨g, o + m, none⟩) hb]
    exact h.cell m u hm
  · rw [World.cell?_of_block (w := w) (w' := w') (a := ⟨g, q, none⟩) hb, World.frozen?_of_block (w := w) (w' := w') (a := ⟨g, q, none⟩) hb]
    exact h.out q hq
def MxP (base : Nat) (w : World) (v : Value) (n : Nat) (ds : List Dat) (F : List Nat) (k' : Int) (e : Ending) (w' : World) : Prop := e = .returned (.int .i64 k') ∧ Own base w' (.list n ds) [v] F ∧ OnlyF F w w'
def In.mk1 (k : Int) (_ : In) : In := k
def Bo.mk1 (k : Int) (_ : Bo) : Bo := k % 3 == 0
def Is.mk1 (k : Int) (_ : Is) : Is := ⟨k, k + 1, k + 1 + 1, k + 1 + 1 + 1, k + 1 + 1 + 1 + 1⟩
def In.c1 (_ : In) : Nat := 1
def Bo.c1 (_ : Bo) : Nat := 1
def Is.c1 (_ : Is) : Nat := 5
theorem In.dats_get (L : List In) (j : Nat) (h : j < (In.dats L).length) (h' : j < L.length) : (In.dats L)[j] = Dat.int L[j] := List.getElem_map ..
theorem Bo.dats_get (L : List Bo) (j : Nat) (h : j < (Bo.dats L).length) (h' : j < L.length) : (Bo.dats L)[j] = Dat.bool L[j] := List.getElem_map ..
theorem Is.dats_get (L : List Is) (j : Nat) (h : j < (Is.dats L).length) (h' : j < L.length) : (Is.dats L)[j] = Is.dat L[j] := List.getElem_map ..
theorem In.dats_set (L : List In) (j : Nat) (x : In) : In.dats (L.set j x) = (In.dats L).set j (Dat.int x) := List.map_set ..
theorem Bo.dats_set (L : List Bo) (j : Nat) (x : Bo) : Bo.dats (L.set j x) = (Bo.dats L).set j (Dat.bool x) := List.map_set ..
theorem Is.dats_set (L : List Is) (j : Nat) (x : Is) : Is.dats (L.set j x) = (Is.dats L).set j (Is.dat x) := List.map_set ..
theorem Is.own_nil {w : World} {p : Is} {cs : List Value} {F : List Nat} (h : OwnD w (Is.dat p) cs F) : F = [] := by
  unfold Is.dat at h
  rw [OwnD] at h
  rw [OwnAgg] at h
  obtain ⟨_, _, A0, B0, _, e0, k0, h⟩ := h
  rw [OwnD] at k0
  rw [OwnAgg] at h
  obtain ⟨_, _, A1, B1, _, e1, k1, h⟩ := h
  rw [OwnD] at k1
  rw [OwnAgg] at h
  obtain ⟨_, _, A2, B2, _, e2, k2, h⟩ := h
  rw [OwnD] at k2
  rw [OwnAgg] at h
  obtain ⟨_, _, A3, B3, _, e3, k3, h⟩ := h
  rw [OwnD] at k3
  rw [OwnAgg] at h
  obtain ⟨_, _, A4, B4, _, e4, k4, h⟩ := h
  rw [OwnD] at k4
  rw [OwnAgg] at h
  rw [e0, e1, e2, e3, e4, h.2, k0.2, k1.2, k2.2, k3.2, k4.2]
  rfl
theorem hidx0 {α : Type} (x : α) : ∃ T, Hid (T = x) := ⟨x, rfl⟩
set_option maxHeartbeats 2000000 in
theorem markIns_x {base : Nat} (v : Value) (l : List In) (k : Int) (w : World) {F : List Nat} (h : Own base w (.list 1 (In.dats l)) [v] F) (h0 : 0 ≤ k) (h1 : k + 1 * l.length ≤ 4611686018427387904) :
    Calls Try.prog 86 #[v, .int .i64 k] w (MxP base w v 1 (In.dats (mks In.mk1 In.c1 k l)) F (k + 1 * l.length)) := by
  have HZ : Hid (∀ w' k', k' = k + 1 * l.length → Own base w' (.list 1 (In.dats (mid In.mk1 In.c1 k l l.length))) [v] F → OnlyF F w w' → MxP base w v 1 (In.dats (mks In.mk1 In.c1 k l)) F (k + 1 * l.length) (.returned (.int .i64 k')) w') := fun w' k' e o f => by rw [mid_all] at o; rw [e]; exact ⟨rfl, o, f⟩
  have hcn : ∀ j, j ≤ l.length → cnt In.c1 (l.take j) = 1 * j := fun j => by
    induction j with
    | zero => intro _; rfl
    | succ j ih => intro hj; rw [cnt_succ _ (by omega), ih (by omega)]; unfold In.c1; omega
  generalize MxP base w v 1 (In.dats (mks In.mk1 In.c1 k l)) F (k + 1 * l.length) = Q at *
  obtain ⟨a, cap, rfl, hl⟩ := In.slice (RdL.iff.1 h.rd |>.elim fun _ q => by obtain ⟨q1, q2⟩ := q; cases q1; exact q2)
  go_enter Try.func86, Try.ntmps86
  go_wp2_with fail
  go_loopw [1, 5] (fun kk i wr => ∃ j : Nat, kk = .int .i64 (k + 1 * (j : Int)) ∧ i = .int .i64 (j : Int) ∧ j ≤ l.length ∧ Own base wr (.list 1 (In.dats (mid In.mk1 In.c1 k l j))) [.slice a l.length cap] F ∧ OnlyF F w wr) (fun _ i _ => l.length - (intOf i).toNat)
  case atStart => exact ⟨0, by simp, rfl, Nat.zero_le _, h, OnlyF.refl _ _⟩
  case round =>
    clear h
    obtain ⟨j, rfl, rfl, hj, hO, hF⟩ := hrel
    by_cases hlt : j < l.length
    · have hi : (j : Int) < (l.length : Int) := by omega
      have hml : j < (mid In.mk1 In.c1 k l j).length := by rw [mid_len]; exact hlt
      obtain ⟨g, cap', cs, Fj, e, hgF, hFj, hnd, hbg, hgl, hck, hcc, hOj, HC⟩ := hO.lens j (by rw [In.dats_len]; exact hml)
      rw [In.dats_get _ _ _ hml, mid_at _ _ _ _ hlt] at hOj
      obtain ⟨rfl, rfl⟩ : cs = [.int .i64 l[j]] ∧ Fj = [] := by have := hOj.own; rw [OwnD] at this; exact this
      simp only [Value.slice.injEq] at e
      obtain ⟨rfl, _, rfl⟩ := e
      obtain ⟨kk, hkk⟩ := hidx0 (k + 1 * (j : Int))
      have kk0 : 0 ≤ kk := by rw [hkk.out]; omega
      have kk1 : kk + 1 ≤ 4611686018427387904 := by rw [hkk.out]; omega
      have E0 : Eb wr wr g (j * 1) [.int .i64 l[j]] := ⟨hgl, hcc, fun _ _ => ⟨rfl, rfl⟩⟩
      have E1 := E0.set 0 (.int .i64 kk) (by simp)
      have HN : Hid (Own base (wr.setCell ⟨g, j * 1 + 0, none⟩ (.int .i64 kk)) (.list 1 (In.dats (mid In.mk1 In.c1 k l (j + 1)))) [.slice (some ⟨g, 0, none⟩) l.length cap] F ∧ OnlyF F w (wr.setCell ⟨g, j * 1 + 0, none⟩ (.int .i64 kk))) := by
        have oF : OnlyF (g :: []) wr (wr.setCell ⟨g, j * 1 + 0, none⟩ (.int .i64 kk)) := by repeat (first | with_reducible exact OnlyF.refl _ _ | refine OnlyF.set ?_ _ (List.mem_cons_self ..))
        refine ⟨?_, hF.trans (oF.mono (fun x hx => by rw [List.mem_singleton.1 hx]; exact hgF))⟩
        rw [mid_succ _ _ _ _ hlt, In.dats_set, hcn j hj, show k + ((1 * j : Nat) : Int) = kk by rw [hkk.out]; omega]
        exact HC _ _ [.int .i64 kk] rfl (fun m u hm => E1.cell m u hm) (by rw [OwnD]; exact ⟨rfl, rfl⟩) oF (fun o ho => E1.out o (by simp only [List.length_set, List.length_cons, List.length_nil] at *; omega))
      have c0 := (E0.cell 0 _ rfl).1
      have f0 := (E0.cell 0 _ rfl).2
      rw [Nat.mul_one, Nat.add_zero] at c0 f0 HN
      clear E0 E1 HC hOj hcc hO HZ hcn
      rw [← hkk.out]
      go_wp2_with fail
      go_roundw
      case rel => exact ⟨j + 1, by rw [hkk.out]; congr 1; omega, by go_num, by omega, HN.out.1, HN.out.2⟩
      case measure => simp [intOf]; omega
    · have hlt' : decide ((j : Int) < (l.length : Int)) = false := by simp; omega
      have hjn : j = l.length := by omega
      subst hjn
      have HQ : Hid _ := HZ.out wr _ rfl hO hF
      clear HZ hO hF hcn
      go_wp2_with fail
      exact HQ.out
set_option maxHeartbeats 2000000 in
theorem markBos_x {base : Nat} (v : Value) (l : List Bo) (k : Int) (w : World) {F : List Nat} (h : Own base w (.list 1 (Bo.dats l)) [v] F) (h0 : 0 ≤ k) (h1 : k + 1 * l.length ≤ 4611686018427387904) :
    Calls Try.prog 59 #[v, .int .i64 k] w (MxP base w v 1 (Bo.dats (mks Bo.mk1 Bo.c1 k l)) F (k + 1 * l.length)) := by
  have HZ : Hid (∀ w' k', k' = k + 1 * l.length → Own base w' (.list 1 (Bo.dats (mid Bo.mk1 Bo.c1 k l l.length))) [v] F → OnlyF F w w' → MxP base w v 1 (Bo.dats (mks Bo.mk1 Bo.c1 k l)) F (k + 1 * l.length) (.returned (.int .i64 k')) w') := fun w' k' e o f => by rw [mid_all] at o; rw [e]; exact ⟨rfl, o, f⟩
  have hcn : ∀ j, j ≤ l.length → cnt Bo.c1 (l.take j) = 1 * j := fun j => by
    induction j with
    | zero => intro _; rfl
    | succ j ih => intro hj; rw [cnt_succ _ (by omega), ih (by omega)]; unfold Bo.c1; omega
  generalize MxP base w v 1 (Bo.dats (mks Bo.mk1 Bo.c1 k l)) F (k + 1 * l.length) = Q at *
  obtain ⟨a, cap, rfl, hl⟩ := Bo.slice (RdL.iff.1 h.rd |>.elim fun _ q => by obtain ⟨q1, q2⟩ := q; cases q1; exact q2)
  go_enter Try.func59, Try.ntmps59
  go_wp2_with fail
  go_loopw [1, 5] (fun kk i wr => ∃ j : Nat, kk = .int .i64 (k + 1 * (j : Int)) ∧ i = .int .i64 (j : Int) ∧ j ≤ l.length ∧ Own base wr (.list 1 (Bo.dats (mid Bo.mk1 Bo.c1 k l j))) [.slice a l.length cap] F ∧ OnlyF F w wr) (fun _ i _ => l.length - (intOf i).toNat)
  case atStart => exact ⟨0, by simp, rfl, Nat.zero_le _, h, OnlyF.refl _ _⟩
  case round =>
    clear h
    obtain ⟨j, rfl, rfl, hj, hO, hF⟩ := hrel
    by_cases hlt : j < l.length
    · have hi : (j : Int) < (l.length : Int) := by omega
      have hml : j < (mid Bo.mk1 Bo.c1 k l j).length := by rw [mid_len]; exact hlt
      obtain ⟨g, cap', cs, Fj, e, hgF, hFj, hnd, hbg, hgl, hck, hcc, hOj, HC⟩ := hO.lens j (by rw [Bo.dats_len]; exact hml)
      rw [Bo.dats_get _ _ _ hml, mid_at _ _ _ _ hlt] at hOj
      obtain ⟨rfl, rfl⟩ : cs = [.bool l[j]] ∧ Fj = [] := by have := hOj.own; rw [OwnD] at this; exact this
      simp only [Value.slice.injEq] at e
      obtain ⟨rfl, _, rfl⟩ := e
      obtain ⟨kk, hkk⟩ := hidx0 (k + 1 * (j : Int))
      have kk0 : 0 ≤ kk := by rw [hkk.out]; omega
      have kk1 : kk + 1 ≤ 4611686018427387904 := by rw [hkk.out]; omega
      have E0 : Eb wr wr g (j * 1) [.bool l[j]] := ⟨hgl, hcc, fun _ _ => ⟨rfl, rfl⟩⟩
      have E1 := E0.set 0 (.bool (kk % 3 == 0)) (by simp)
      have HN : Hid (Own base (wr.setCell ⟨g, j * 1 + 0, none⟩ (.bool (kk % 3 == 0))) (.list 1 (Bo.dats (mid Bo.mk1 Bo.c1 k l (j + 1)))) [.slice (some ⟨g, 0, none⟩) l.length cap] F ∧ OnlyF F w (wr.setCell ⟨g, j * 1 + 0, none⟩ (.bool (kk % 3 == 0)))) := by
        have oF : OnlyF (g :: []) wr (wr.setCell ⟨g, j * 1 + 0, none⟩ (.bool (kk % 3 == 0))) := by repeat (first | with_reducible exact OnlyF.refl _ _ | refine OnlyF.set ?_ _ (List.mem_cons_self ..))
        refine ⟨?_, hF.trans (oF.mono (fun x hx => by rw [List.mem_singleton.1 hx]; exact hgF))⟩
        rw [mid_succ _ _ _ _ hlt, Bo.dats_set, hcn j hj, show k + ((1 * j : Nat) : Int) = kk by rw [hkk.out]; omega]
        exact HC _ _ [.bool (kk % 3 == 0)] rfl (fun m u hm => E1.cell m u hm) (by rw [OwnD]; exact ⟨rfl, rfl⟩) oF (fun o ho => E1.out o (by simp only [List.length_set, List.length_cons, List.length_nil] at *; omega))
      have c0 := (E0.cell 0 _ rfl).1
      have f0 := (E0.cell 0 _ rfl).2
      rw [Nat.mul_one, Nat.add_zero] at c0 f0 HN
      clear E0 E1 HC hOj hcc hO HZ hcn
      rw [← hkk.out]
      go_wp2_with fail
      go_roundw
      case rel => exact ⟨j + 1, by rw [hkk.out]; congr 1; omega, by go_num, by omega, HN.out.1, HN.out.2⟩
      case measure => simp [intOf]; omega
    · have hlt' : decide ((j : Int) < (l.length : Int)) = false := by simp; omega
      have hjn : j = l.length := by omega
      subst hjn
      have HQ : Hid _ := HZ.out wr _ rfl hO hF
      clear HZ hO hF hcn
      go_wp2_with fail
      exact HQ.out
set_option maxHeartbeats 2000000 in
theorem markIss_x {base : Nat} (v : Value) (l : List Is) (k : Int) (w : World) {F : List Nat} (h : Own base w (.list 5 (Is.dats l)) [v] F) (h0 : 0 ≤ k) (h1 : k + 5 * l.length ≤ 4611686018427387904) :
    Calls Try.prog 60 #[v, .int .i64 k] w (MxP base w v 5 (Is.dats (mks Is.mk1 Is.c1 k l)) F (k + 5 * l.length)) := by
  have HZ : Hid (∀ w' k', k' = k + 5 * l.length → Own base w' (.list 5 (Is.dats (mid Is.mk1 Is.c1 k l l.length))) [v] F → OnlyF F w w' → MxP base w v 5 (Is.dats (mks Is.mk1 Is.c1 k l)) F (k + 5 * l.length) (.returned (.int .i64 k')) w') := fun w' k' e o f => by rw [mid_all] at o; rw [e]; exact ⟨rfl, o, f⟩
  have hcn : ∀ j, j ≤ l.length → cnt Is.c1 (l.take j) = 5 * j := fun j => by
    induction j with
    | zero => intro _; rfl
    | succ j ih => intro hj; rw [cnt_succ _ (by omega), ih (by omega)]; unfold Is.c1; omega
  generalize MxP base w v 5 (Is.dats (mks Is.mk1 Is.c1 k l)) F (k + 5 * l.length) = Q at *
  obtain ⟨a, cap, rfl, hl⟩ := Is.slice (RdL.iff.1 h.rd |>.elim fun _ q => by obtain ⟨q1, q2⟩ := q; cases q1; exact q2)
  go_enter Try.func60, Try.ntmps60
  go_wp2_with fail
  go_loopw [1, 5] (fun kk i wr => ∃ j : Nat, kk = .int .i64 (k + 5 * (j : Int)) ∧ i = .int .i64 (j : Int) ∧ j ≤ l.length ∧ Own base wr (.list 5 (Is.dats (mid Is.mk1 Is.c1 k l j))) [.slice a l.length cap] F ∧ OnlyF F w wr) (fun _ i _ => l.length - (intOf i).toNat)
  case atStart => exact ⟨0, by simp, rfl, Nat.zero_le _, h, OnlyF.refl _ _⟩
  case round =>
    clear h
    obtain ⟨j, rfl, rfl, hj, hO, hF⟩ := hrel
    by_cases hlt : j < l.length
    · have hi : (j : Int) < (l.length : Int) := by omega
      have hml : j < (mid Is.mk1 Is.c1 k l j).length := by rw [mid_len]; exact hlt
      obtain ⟨g, cap', cs, Fj, e, hgF, hFj, hnd, hbg, hgl, hck, hcc, hOj, HC⟩ := hO.lens j (by rw [Is.dats_len]; exact hml)
      rw [Is.dats_get _ _ _ hml, mid_at _ _ _ _ hlt] at hOj
      obtain rfl := Is.view hOj.rd
      obtain rfl := Is.own_nil hOj.own
      simp only [Value.slice.injEq] at e
      obtain ⟨rfl, _, rfl⟩ := e
      obtain ⟨kk, hkk⟩ := hidx0 (k + 5 * (j : Int))
      have kk0 : 0 ≤ kk := by rw [hkk.out]; omega
      have kk1 : kk + 5 ≤ 4611686018427387904 := by rw [hkk.out]; omega
      have E0 : Eb wr wr g (j * 5) [.int .i64 l[j].op, .int .i64 l[j].a, .int .i64 l[j].b, .int .i64 l[j].c, .int .i64 l[j].n] := ⟨hgl, hcc, fun _ _ => ⟨rfl, rfl⟩⟩
      have E1 := E0.set 0 (.int .i64 kk) (by simp)
      have E2 := E1.set 1 (.int .i64 (kk + 1)) (by simp)
      have E3 := E2.set 2 (.int .i64 (kk + 1 + 1)) (by simp)
      have E4 := E3.set 3 (.int .i64 (kk + 1 + 1 + 1)) (by simp)
      have E5 := E4.set 4 (.int .i64 (kk + 1 + 1 + 1 + 1)) (by simp)
      have HN : Hid (Own base (((((wr.setCell ⟨g, j * 5 + 0, none⟩ (.int .i64 kk)).setCell ⟨g, j * 5 + 1, none⟩ (.int .i64 (kk + 1))).setCell ⟨g, j * 5 + 2, none⟩ (.int .i64 (kk + 1 + 1))).setCell ⟨g, j * 5 + 3, none⟩ (.int .i64 (kk + 1 + 1 + 1))).setCell ⟨g, j * 5 + 4, none⟩ (.int .i64 (kk + 1 + 1 + 1 + 1))) (.list 5 (Is.dats (mid Is.mk1 Is.c1 k l (j + 1)))) [.slice (some ⟨g, 0, none⟩) l.length cap] F ∧ OnlyF F w (((((wr.setCell ⟨g, j * 5 + 0, none⟩ (.int .i64 kk)).setCell ⟨g, j * 5 + 1, none⟩ (.int .i64 (kk + 1))).setCell ⟨g, j * 5 + 2, none⟩ (.int .i64 (kk + 1 + 1))).setCell ⟨g, j * 5 + 3, none⟩ (.int .i64 (kk + 1 + 1 + 1))).setCell ⟨g, j * 5 + 4, none⟩ (.int .i64 (kk + 1 + 1 + 1 + 1)))) := by
        have oF : OnlyF (g :: []) wr (((((wr.setCell ⟨g, j * 5 + 0, none⟩ (.int .i64 kk)).setCell ⟨g, j * 5 + 1, none⟩ (.int .i64 (kk + 1))).setCell ⟨g, j * 5 + 2, none⟩ (.int .i64 (kk + 1 + 1))).setCell ⟨g, j * 5 + 3, none⟩ (.int .i64 (kk + 1 + 1 + 1))).setCell ⟨g, j * 5 + 4, none⟩ (.int .i64 (kk + 1 + 1 + 1 + 1))) := by repeat (first | with_reducible exact OnlyF.refl _ _ | refine OnlyF.set ?_ _ (List.mem_cons_self ..))
        refine ⟨?_, hF.trans (oF.mono (fun x hx => by rw [List.mem_singleton.1 hx]; exact hgF))⟩
        rw [mid_succ _ _ _ _ hlt, Is.dats_set, hcn j hj, show k + ((5 * j : Nat) : Int) = kk by rw [hkk.out]; omega]
        exact HC _ _ [.int .i64 kk, .int .i64 (kk + 1), .int .i64 (kk + 1 + 1), .int .i64 (kk + 1 + 1 + 1), .int .i64 (kk + 1 + 1 + 1 + 1)] rfl (fun m u hm => E5.cell m u hm) (Is.own _ ⟨kk, kk + 1, kk + 1 + 1, kk + 1 + 1 + 1, kk + 1 + 1 + 1 + 1⟩) oF (fun o ho => E5.out o (by simp only [List.length_set, List.length_cons, List.length_nil] at *; omega))
      have c0 := (E0.cell 0 _ rfl).1
      have f0 := (E0.cell 0 _ rfl).2
      have c1 := (E0.cell 1 _ rfl).1
      have f1 := (E0.cell 1 _ rfl).2
      have c2 := (E0.cell 2 _ rfl).1
      have f2 := (E0.cell 2 _ rfl).2
      have c3 := (E0.cell 3 _ rfl).1
      have f3 := (E0.cell 3 _ rfl).2
      have c4 := (E0.cell 4 _ rfl).1
      have f4 := (E0.cell 4 _ rfl).2
      rw [Nat.add_zero] at c0 f0 HN
      clear E0 E1 E2 E3 E4 E5 HC hOj hcc hO HZ hcn
      rw [← hkk.out]
      go_wp2_with fail
      go_roundw
      case rel => exact ⟨j + 1, by rw [hkk.out]; congr 1; omega, by go_num, by omega, HN.out.1, HN.out.2⟩
      case measure => simp [intOf]; omega
    · have hlt' : decide ((j : Int) < (l.length : Int)) = false := by simp; omega
      have hjn : j = l.length := by omega
      subst hjn
      have HQ : Hid _ := HZ.out wr _ rfl hO hF
      clear HZ hO hF hcn
      go_wp2_with fail
      exact HQ.out
end Go.Proofs.Ytlfkjjnhlkaipaa
