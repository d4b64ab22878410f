/- Trees copied by the laws' own functions to. -/
import Derived.Test.YthammngddmkhhaaY3
namespace Go.Proofs.Ythammngddmkhhaa
open Go.RowKit

theorem Try.info3 : (Try.prog.info? 3).map (fun i => (i.zero, i.size, i.bytes)) = some (some (.int .i64 0), 1, 8) := by kernel_rfl
set_option maxHeartbeats 2000000 in
theorem toIns_any (v : Value) (l : List In) (w : World) (h : RdL w 1 v (In.dats l)) (hM : In.szs l ≤ 1048576) :
    Calls Try.prog 46 #[v] w fun e w' => ∃ a c F, e = .returned (.slice a l.length c) ∧ Own w.heap.size w' (.list 1 (In.dats l)) [.slice a l.length c] F ∧ Later w w' := by
  obtain ⟨a, cap, rfl, hl⟩ := In.slice h
  have hln : l.length ≤ 1048576 := hM
  obtain ⟨i0, hi, hz0, hz1, hz2⟩ := info_parts Try.info3
  go_enter Try.func46, Try.ntmps46
  go_wp2_with (at_make; refine wpList_make_full _ rfl _ _ 30 rfl w.heap.size 3 i0 (.int .i64 0) 1 Try.underlying30 hi hz0 hz1 .i64 .i64 _ _ l.length rfl rfl rfl rfl (by rw [hz2]; omega) (by unfold maxLen; omega) (Nat.le_refl _) ?_; intro w1 hown hgr)
  have hlat1 : Later w w1 := (Below.refl _ _).grown hgr (Nat.le_refl _) (fun k h => by cases h)
  have hrow : Row w w1 1 l.length 0 (In.dats l) [] := Row.start hown hown.1 hlat1 _
  clear hown hgr hi hz0 hz1 hz2
  go_loopw [4] (fun i wr => ∃ (j : Nat) (F : List Nat), i = .int .i64 (j : Int) ∧ j ≤ l.length ∧ Row w wr 1 l.length j (In.dats l) F) (fun i _ => l.length - (intOf i).toNat)
  case atStart => exact ⟨0, [], rfl, Nat.zero_le _, hrow⟩
  case round =>
    obtain ⟨k, F, rfl, hk, hR⟩ := hrel
    by_cases hlt : k < l.length
    · obtain ⟨g, off, rfl, hg, c0⟩ := In.elem (RdL.later hR.later h) k hlt
      have i1 : (k : Int) < (l.length : Int) := by omega
      have HD : (In.dats l)[k]'(by rw [In.dats_len]; exact hlt) = .int l[k] := List.getElem_map ..
      obtain ⟨F', hN'⟩ := Row.next hR (by rw [In.dats_len]; exact hlt) (In.dats_len l) (cs := [.int .i64 l[k]]) (G := []) rfl (by rw [HD]; exact Own.mk' (by rw [OwnD]; exact ⟨rfl, rfl⟩) (Fr.nil _ _)) (Later.refl _)
      obtain ⟨⟨y0, e0⟩, f0⟩ := hR.at hlt 0 (by decide)
      rw [Nat.mul_one] at hN' e0 f0
      rw [Nat.add_zero] at e0 f0
      have hN2 : Row w (wr.setCell ⟨w.heap.size, k, none⟩ (.int .i64 l[k])) 1 l.length (k + 1) (In.dats l) F' := hN'
      generalize l[k] = z at *
      clear hR h hrow HD hN'
      go_wp2_with fail
      go_roundw
      case rel => exact ⟨k + 1, F', by go_num, by omega, hN2⟩
      case measure => simp [intOf]; omega
    · have i1 : ¬ (k : Int) < (l.length : Int) := by omega
      have i2 : decide ((k : Int) < (l.length : Int)) = false := decide_eq_false i1
      have hkk : k = l.length := by omega
      subst hkk
      obtain ⟨G, hG⟩ := hR.done (cap := l.length) (In.dats_len l) hln ⟨Nat.le_refl _, by unfold maxLen; omega⟩
      have lr := hR.later
      clear hR h hrow
      go_wp2_with fail
      go_ret
      exact ⟨_, _, rfl, ⟨G, hG⟩, lr⟩

theorem Tp.own (w : World) (p : Tp) : OwnD w (Tp.dat p) [.int .i64 p.1, .int .i64 p.2] [] := by
  unfold Tp.dat
  rw [OwnD, OwnAgg]
  refine ⟨[_], _, [], [], rfl, rfl, by rw [OwnD]; exact ⟨rfl, rfl⟩, ?_⟩
  rw [OwnAgg]
  refine ⟨[_], _, [], [], rfl, rfl, by rw [OwnD]; exact ⟨rfl, rfl⟩, ?_⟩
  rw [OwnAgg]
  exact ⟨rfl, rfl⟩
theorem Try.info33 : (Try.prog.info? 33).map (fun i => (i.zero, i.size, i.bytes)) = some (some (.agg #[.int .i64 0, .int .i64 0]), 2, 16) := by kernel_rfl
set_option maxHeartbeats 2000000 in
theorem toTps_any (v : Value) (l : List Tp) (w : World) (h : RdL w 2 v (Tp.dats l)) (hM : Tp.szs l ≤ 1048576) :
    Calls Try.prog 18 #[v] w fun e w' => ∃ a c F, e = .returned (.slice a l.length c) ∧ Own w.heap.size w' (.list 2 (Tp.dats l)) [.slice a l.length c] F ∧ Later w w' := by
  obtain ⟨a, cap, rfl, hl⟩ := Tp.slice h
  have hln : l.length ≤ 1048576 := hM
  obtain ⟨i0, hi, hz0, hz1, hz2⟩ := info_parts Try.info33
  go_enter Try.func18, Try.ntmps18
  go_wp2_with (at_make; refine wpList_make_full _ rfl _ _ 32 rfl w.heap.size 33 i0 (.agg #[.int .i64 0, .int .i64 0]) 2 Try.underlying32 hi hz0 hz1 .i64 .i64 _ _ l.length rfl rfl rfl rfl (by rw [hz2]; omega) (by unfold maxLen; omega) (Nat.le_refl _) ?_; intro w1 hown hgr)
  have hlat1 : Later w w1 := (Below.refl _ _).grown hgr (Nat.le_refl _) (fun k h => by cases h)
  have hrow : Row w w1 2 l.length 0 (Tp.dats l) [] := Row.start hown hown.1 hlat1 _
  clear hown hgr hi hz0 hz1 hz2
  go_loopw [4] (fun i wr => ∃ (j : Nat) (F : List Nat), i = .int .i64 (j : Int) ∧ j ≤ l.length ∧ Row w wr 2 l.length j (Tp.dats l) F) (fun i _ => l.length - (intOf i).toNat)
  case atStart => exact ⟨0, [], rfl, Nat.zero_le _, hrow⟩
  case round =>
    obtain ⟨k, F, rfl, hk, hR⟩ := hrel
    by_cases hlt : k < l.length
    · obtain ⟨g, off, rfl, hg, c0, c1⟩ := Tp.elem (RdL.later hR.later h) k hlt
      have i1 : (k : Int) < (l.length : Int) := by omega
      have HD : Hid ((Tp.dats l)[k]'(by rw [Tp.dats_len]; exact hlt) = Tp.dat l[k]) := List.getElem_map ..
      have HT := Tp.own
      have hx := toTy_any l[k].1 l[k].2 wr
      obtain ⟨p, hp⟩ : ∃ p, Hid (p = l[k]) := ⟨l[k], show l[k] = l[k] from rfl⟩
      rw [← hp.out] at HD c0 c1 hx
      clear hrow hlat1
      obtain ⟨tk, tn⟩ := p
      simp only at c0 c1 hx
      go_wp2_with fail
      refine hx.mono ?_
      rintro e w2 ⟨rfl, l2⟩
      obtain ⟨F', hN'⟩ := Row.next hR (by rw [Tp.dats_len]; exact hlt) (Tp.dats_len l) (cs := [.int .i64 tk, .int .i64 tn]) (G := []) rfl (by rw [HD.out]; exact Own.mk' (HT _ _) (Fr.nil _ _)) l2
      have hlt2 := hR.lt
      have e0 : ∃ u, w2.cell? ⟨w.heap.size, k * 2, none⟩ = some u := by rw [Below.cell l2 (p := ⟨w.heap.size, k * 2, none⟩) hlt2]; exact (hR.at hlt 0 (by decide)).1
      obtain ⟨y0, e0⟩ := e0
      have f0 : w2.frozen? ⟨w.heap.size, k * 2, none⟩ = false := by rw [Below.frozen l2 (p := ⟨w.heap.size, k * 2, none⟩) hlt2]; exact (hR.at hlt 0 (by decide)).2
      have e1 : ∃ u, w2.cell? ⟨w.heap.size, k * 2 + 1, none⟩ = some u := by rw [Below.cell l2 (p := ⟨w.heap.size, k * 2 + 1, none⟩) hlt2]; exact (hR.at hlt 1 (by decide)).1
      obtain ⟨y1, e1⟩ := e1
      have f1 : w2.frozen? ⟨w.heap.size, k * 2 + 1, none⟩ = false := by rw [Below.frozen l2 (p := ⟨w.heap.size, k * 2 + 1, none⟩) hlt2]; exact (hR.at hlt 1 (by decide)).2
      clear hR h HT
      go_wp2_with fail
      go_roundw
      case rel => exact ⟨k + 1, F', by go_num, by omega, hN'⟩
      case measure => simp [intOf]; omega
    · have i1 : ¬ (k : Int) < (l.length : Int) := by omega
      have i2 : decide ((k : Int) < (l.length : Int)) = false := decide_eq_false i1
      have hkk : k = l.length := by omega
      subst hkk
      obtain ⟨G, hG⟩ := hR.done (cap := l.length) (Tp.dats_len l) hln ⟨Nat.le_refl _, by unfold maxLen; omega⟩
      have lr := hR.later
      clear hR h hrow
      go_wp2_with fail
      go_ret
      exact ⟨_, _, rfl, ⟨G, hG⟩, lr⟩

theorem Va.own {w : World} {x : Va} {u0 : Value} {F0 : List Nat} (h0 : OwnD w (.list 1 (In.dats x.args)) [u0] F0) : OwnD w x.dat [.int .i64 x.op, .int .i64 x.n, .int .i64 x.tk, .int .i64 x.tn, u0] (F0) := by
  obtain ⟨op, n, tk, tn, args⟩ := x
  rw [Va.dat, OwnD]
  rw [OwnAgg]
  refine ⟨[_], _, [], _, rfl, (List.nil_append _).symm, by rw [OwnD]; exact ⟨rfl, rfl⟩, ?_⟩
  rw [OwnAgg]
  refine ⟨[_], _, [], _, rfl, (List.nil_append _).symm, by rw [OwnD]; exact ⟨rfl, rfl⟩, ?_⟩
  rw [OwnAgg]
  refine ⟨[_], _, [], _, rfl, (List.nil_append _).symm, by rw [OwnD]; exact ⟨rfl, rfl⟩, ?_⟩
  rw [OwnAgg]
  refine ⟨[_], _, [], _, rfl, (List.nil_append _).symm, by rw [OwnD]; exact ⟨rfl, rfl⟩, ?_⟩
  rw [OwnAgg]
  refine ⟨[_], _, F0, [], rfl, (List.append_nil _).symm, h0, ?_⟩
  rw [OwnAgg]
  exact ⟨rfl, rfl⟩
set_option maxHeartbeats 1000000 in
theorem toVa_any (x : Va) (v0 : Value) (w : World) (h0 : RdL w 1 v0 (In.dats x.args)) (hsz : x.sz ≤ 1048576) :
    Calls Try.prog 37 #[.agg #[.int .i64 x.op, .int .i64 x.n, .int .i64 x.tk, .int .i64 x.tn, v0]] w fun e w' => ∃ b0 q0 F, e = .returned (.agg #[.int .i64 x.op, .int .i64 x.n, .int .i64 x.tk, .int .i64 x.tn, .slice b0 x.args.length q0]) ∧ Own w.heap.size w' x.dat [.int .i64 x.op, .int .i64 x.n, .int .i64 x.tk, .int .i64 x.tn, .slice b0 x.args.length q0] F ∧ Later w w' := by
  have HO : Hid (∀ {w' : World} {u0 : Value} {F0 : List Nat}, OwnD w' (.list 1 (In.dats x.args)) [u0] F0 → OwnD w' x.dat [.int .i64 x.op, .int .i64 x.n, .int .i64 x.tk, .int .i64 x.tn, u0] (F0)) := fun h0 => Va.own h0
  have hsum : x.sz = In.szs x.args := by obtain ⟨op, n, tk, tn, args⟩ := x; rfl
  obtain ⟨a0, p0, rfl, _⟩ := In.slice h0
  have hs0 : In.szs x.args ≤ x.sz := by rw [hsum]; omega
  clear hsum
  generalize x.op = z_op at *
  generalize x.n = z_n at *
  generalize x.tk = z_tk at *
  generalize x.tn = z_tn at *
  go_enter Try.func37, Try.ntmps37
  go_wp2_with fail
  refine (toTy_any _ _ _).mono ?_
  rintro e w1 ⟨rfl, l1⟩
  have L1 : Later w w1 := Later.trans (by repeat (first | with_reducible exact Later.refl _ | refine Later.setAt ?_ (by omega) _ _ | refine Later.alloc ?_ _)) l1
  have z1 : w.heap.size + 1 + 1 < w1.heap.size := by have := l1.size; simp at this; omega
  have y1 : w.heap.size + 1 < w1.heap.size := by omega
  have x1 : w.heap.size < w1.heap.size := by omega
  obtain ⟨hc1, hf1⟩ := bcell l1
  go_wp2_with fail
  refine (toIns_any _ _ _ (RdL.later (by repeat (first | with_reducible exact L1 | refine Later.setAt ?_ (by omega) _ _ | refine Later.alloc ?_ _)) h0) (by omega)).mono ?_
  rintro e w2 ⟨b0, q0, G0, rfl, O0, l2⟩
  have L2 : Later w w2 := Later.trans (by repeat (first | with_reducible exact L1 | refine Later.setAt ?_ (by omega) _ _ | refine Later.alloc ?_ _)) l2
  have z2 : w.heap.size + 1 + 1 < w2.heap.size := by have := l2.size; simp at this; omega
  have y2 : w.heap.size + 1 < w2.heap.size := by omega
  have x2 : w.heap.size < w2.heap.size := by omega
  obtain ⟨hc2, hf2⟩ := bcell l2
  have s2 : w1.heap.size ≤ w2.heap.size := by have := l2.size; simp at this; omega
  go_wp2_with fail
  refine bodyPost_ret (v := .agg #[.int .i64 z_op, .int .i64 z_n, .int .i64 z_tk, .int .i64 z_tn, .slice b0 x.args.length q0]) (by simp [results, Try.results37, go_sem, hc1, y1, hc2]) rfl ⟨b0, q0, _, rfl, Own.mk' (HO.out (O0.kept (by repeat (first | with_reducible exact Kept.refl _ _ | refine Kept.setAt ?_ (by first | omega | (simp; done) | (simp; omega)) _ _)))) (O0.fr.mono (by first | omega | (simp; done) | (simp; omega)) (by first | omega | (simp; done) | (simp; omega))), (by repeat (first | with_reducible exact L2 | refine Later.setAt ?_ (by omega) _ _ | refine Later.alloc ?_ _))⟩

theorem Try.info83 : (Try.prog.info? 83).map (fun i => (i.zero, i.size, i.bytes)) = some (some (.agg #[.int .i64 0, .int .i64 0, .int .i64 0, .int .i64 0, .slice none 0 0]), 5, 56) := by kernel_rfl
set_option maxHeartbeats 2000000 in
theorem toVas_any (v : Value) (l : List Va) (w : World) (h : RdL w 5 v (Va.dats l)) (hM : Va.szs l ≤ 1048576) :
    Calls Try.prog 20 #[v] w fun e w' => ∃ a c F, e = .returned (.slice a l.length c) ∧ Own w.heap.size w' (.list 5 (Va.dats l)) [.slice a l.length c] F ∧ Later w w' := by
  obtain ⟨a, cap, rfl, hl⟩ := Va.slice h
  have hge := Va.szs_ge l
  have hln : l.length ≤ 1048576 := by omega
  obtain ⟨i0, hi, hz0, hz1, hz2⟩ := info_parts Try.info83
  go_enter Try.func20, Try.ntmps20
  go_wp2_with (at_make; refine wpList_make_full _ rfl _ _ 34 rfl w.heap.size 83 i0 (.agg #[.int .i64 0, .int .i64 0, .int .i64 0, .int .i64 0, .slice none 0 0]) 5 Try.underlying34 hi hz0 hz1 .i64 .i64 _ _ l.length rfl rfl rfl rfl (by rw [hz2]; omega) (by unfold maxLen; omega) (Nat.le_refl _) ?_; intro w1 hown hgr)
  have hlat1 : Later w w1 := (Below.refl _ _).grown hgr (Nat.le_refl _) (fun k h => by cases h)
  have hrow : Row w w1 5 l.length 0 (Va.dats l) [] := Row.start hown hown.1 hlat1 _
  clear hown hgr hi hz0 hz1 hz2
  go_loopw [4] (fun i wr => ∃ (j : Nat) (F : List Nat), i = .int .i64 (j : Int) ∧ j ≤ l.length ∧ Row w wr 5 l.length j (Va.dats l) F) (fun i _ => l.length - (intOf i).toNat)
  case atStart => exact ⟨0, [], rfl, Nat.zero_le _, hrow⟩
  case round =>
    obtain ⟨k, F, rfl, hk, hR⟩ := hrel
    by_cases hlt : k < l.length
    · obtain ⟨g, off, v0, rfl, hg, c0, c1, c2, c3, c4, r0⟩ := Va.elem (RdL.later hR.later h) k hlt
      have i1 : (k : Int) < (l.length : Int) := by omega
      have hE := toVa_any l[k] v0 wr r0 (by have := Va.sz_at l k hlt; omega) 
      have HD : Hid ((Va.dats l)[k]'(by rw [Va.dats_len]; exact hlt) = l[k].dat) := Va.dats_at l k hlt _
      clear r0 hrow hlat1
      go_wp2_with fail
      refine hE.mono ?_
      rintro e w2 ⟨b0, q0, G, rfl, hO, l2⟩
      obtain ⟨F', hN'⟩ := Row.next hR (by rw [Va.dats_len]; exact hlt) (Va.dats_len l) rfl (by rw [HD.out]; exact hO) l2
      have hlt2 := hR.lt
      have e0 : ∃ u, w2.cell? ⟨w.heap.size, k * 5, none⟩ = some u := by rw [Below.cell l2 (p := ⟨w.heap.size, k * 5, none⟩) hlt2]; exact (hR.at hlt 0 (by decide)).1
      obtain ⟨y0, e0⟩ := e0
      have f0 : w2.frozen? ⟨w.heap.size, k * 5, none⟩ = false := by rw [Below.frozen l2 (p := ⟨w.heap.size, k * 5, none⟩) hlt2]; exact (hR.at hlt 0 (by decide)).2
      have e1 : ∃ u, w2.cell? ⟨w.heap.size, k * 5 + 1, none⟩ = some u := by rw [Below.cell l2 (p := ⟨w.heap.size, k * 5 + 1, none⟩) hlt2]; exact (hR.at hlt 1 (by decide)).1
      obtain ⟨y1, e1⟩ := e1
      have f1 : w2.frozen? ⟨w.heap.size, k * 5 + 1, none⟩ = false := by rw [Below.frozen l2 (p := ⟨w.heap.size, k * 5 + 1, none⟩) hlt2]; exact (hR.at hlt 1 (by decide)).2
      have e2 : ∃ u, w2.cell? ⟨w.heap.size, k * 5 + 2, none⟩ = some u := by rw [Below.cell l2 (p := ⟨w.heap.size, k * 5 + 2, none⟩) hlt2]; exact (hR.at hlt 2 (by decide)).1
      obtain ⟨y2, e2⟩ := e2
      have f2 : w2.frozen? ⟨w.heap.size, k * 5 + 2, none⟩ = false := by rw [Below.frozen l2 (p := ⟨w.heap.size, k * 5 + 2, none⟩) hlt2]; exact (hR.at hlt 2 (by decide)).2
      have e3 : ∃ u, w2.cell? ⟨w.heap.size, k * 5 + 3, none⟩ = some u := by rw [Below.cell l2 (p := ⟨w.heap.size, k * 5 + 3, none⟩) hlt2]; exact (hR.at hlt 3 (by decide)).1
      obtain ⟨y3, e3⟩ := e3
      have f3 : w2.frozen? ⟨w.heap.size, k * 5 + 3, none⟩ = false := by rw [Below.frozen l2 (p := ⟨w.heap.size, k * 5 + 3, none⟩) hlt2]; exact (hR.at hlt 3 (by decide)).2
      have e4 : ∃ u, w2.cell? ⟨w.heap.size, k * 5 + 4, none⟩ = some u := by rw [Below.cell l2 (p := ⟨w.heap.size, k * 5 + 4, none⟩) hlt2]; exact (hR.at hlt 4 (by decide)).1
      obtain ⟨y4, e4⟩ := e4
      have f4 : w2.frozen? ⟨w.heap.size, k * 5 + 4, none⟩ = false := by rw [Below.frozen l2 (p := ⟨w.heap.size, k * 5 + 4, none⟩) hlt2]; exact (hR.at hlt 4 (by decide)).2
      clear hR hO hE h
      go_wp2_with fail
      go_roundw
      case rel => exact ⟨k + 1, F', by go_num, by omega, hN'⟩
      case measure => simp [intOf]; omega
    · have i1 : ¬ (k : Int) < (l.length : Int) := by omega
      have i2 : decide ((k : Int) < (l.length : Int)) = false := decide_eq_false i1
      have hkk : k = l.length := by omega
      subst hkk
      obtain ⟨G, hG⟩ := hR.done (cap := l.length) (Va.dats_len l) hln ⟨Nat.le_refl _, by unfold maxLen; omega⟩
      have lr := hR.later
      clear hR h hrow
      go_wp2_with fail
      go_ret
      exact ⟨_, _, rfl, ⟨G, hG⟩, lr⟩

theorem Ed.own {w : World} {x : Ed} {u0 : Value} {F0 : List Nat} (h0 : OwnD w (.list 1 (In.dats x.args)) [u0] F0) : OwnD w x.dat [.int .i64 x.to, u0] (F0) := by
  obtain ⟨to, args⟩ := x
  rw [Ed.dat, OwnD]
  rw [OwnAgg]
  refine ⟨[_], _, [], _, rfl, (List.nil_append _).symm, by rw [OwnD]; exact ⟨rfl, rfl⟩, ?_⟩
  rw [OwnAgg]
  refine ⟨[_], _, F0, [], rfl, (List.append_nil _).symm, h0, ?_⟩
  rw [OwnAgg]
  exact ⟨rfl, rfl⟩
set_option maxHeartbeats 1000000 in
theorem toEd_any (x : Ed) (v0 : Value) (w : World) (h0 : RdL w 1 v0 (In.dats x.args)) (hsz : x.sz ≤ 1048576) :
    Calls Try.prog 50 #[.agg #[.int .i64 x.to, v0]] w fun e w' => ∃ b0 q0 F, e = .returned (.agg #[.int .i64 x.to, .slice b0 x.args.length q0]) ∧ Own w.heap.size w' x.dat [.int .i64 x.to, .slice b0 x.args.length q0] F ∧ Later w w' := by
  have HO : Hid (∀ {w' : World} {u0 : Value} {F0 : List Nat}, OwnD w' (.list 1 (In.dats x.args)) [u0] F0 → OwnD w' x.dat [.int .i64 x.to, u0] (F0)) := fun h0 => Ed.own h0
  have hsum : x.sz = In.szs x.args := by obtain ⟨to, args⟩ := x; rfl
  obtain ⟨a0, p0, rfl, _⟩ := In.slice h0
  have hs0 : In.szs x.args ≤ x.sz := by rw [hsum]; omega
  clear hsum
  generalize x.to = z_to at *
  go_enter Try.func50, Try.ntmps50
  go_wp2_with fail
  refine (toIns_any _ _ _ (RdL.later (by repeat (first | with_reducible exact Later.refl _ | refine Later.setAt ?_ (by omega) _ _ | refine Later.alloc ?_ _)) h0) (by omega)).mono ?_
  rintro e w1 ⟨b0, q0, G0, rfl, O0, l1⟩
  have L1 : Later w w1 := Later.trans (by repeat (first | with_reducible exact Later.refl _ | refine Later.setAt ?_ (by omega) _ _ | refine Later.alloc ?_ _)) l1
  have z1 : w.heap.size + 1 + 1 < w1.heap.size := by have := l1.size; simp at this; omega
  have y1 : w.heap.size + 1 < w1.heap.size := by omega
  have x1 : w.heap.size < w1.heap.size := by omega
  obtain ⟨hc1, hf1⟩ := bcell l1
  go_wp2_with fail
  refine bodyPost_ret (v := .agg #[.int .i64 z_to, .slice b0 x.args.length q0]) (by simp [results, Try.results50, go_sem, hc1]) rfl ⟨b0, q0, _, rfl, Own.mk' (HO.out (O0.kept (by repeat (first | with_reducible exact Kept.refl _ _ | refine Kept.setAt ?_ (by first | omega | (simp; done) | (simp; omega)) _ _)))) (O0.fr.mono (by first | omega | (simp; done) | (simp; omega)) (by first | omega | (simp; done) | (simp; omega))), (by repeat (first | with_reducible exact L1 | refine Later.setAt ?_ (by omega) _ _ | refine Later.alloc ?_ _))⟩

theorem Try.info79 : (Try.prog.info? 79).map (fun i => (i.zero, i.size, i.bytes)) = some (some (.agg #[.int .i64 0, .slice none 0 0]), 2, 32) := by kernel_rfl
set_option maxHeartbeats 2000000 in
theorem toEds_any (v : Value) (l : List Ed) (w : World) (h : RdL w 2 v (Ed.dats l)) (hM : Ed.szs l ≤ 1048576) :
    Calls Try.prog 47 #[v] w fun e w' => ∃ a c F, e = .returned (.slice a l.length c) ∧ Own w.heap.size w' (.list 2 (Ed.dats l)) [.slice a l.length c] F ∧ Later w w' := by
  obtain ⟨a, cap, rfl, hl⟩ := Ed.slice h
  have hge := Ed.szs_ge l
  have hln : l.length ≤ 1048576 := by omega
  obtain ⟨i0, hi, hz0, hz1, hz2⟩ := info_parts Try.info79
  go_enter Try.func47, Try.ntmps47
  go_wp2_with (at_make; refine wpList_make_full _ rfl _ _ 75 rfl w.heap.size 79 i0 (.agg #[.int .i64 0, .slice none 0 0]) 2 Try.underlying75 hi hz0 hz1 .i64 .i64 _ _ l.length rfl rfl rfl rfl (by rw [hz2]; omega) (by unfold maxLen; omega) (Nat.le_refl _) ?_; intro w1 hown hgr)
  have hlat1 : Later w w1 := (Below.refl _ _).grown hgr (Nat.le_refl _) (fun k h => by cases h)
  have hrow : Row w w1 2 l.length 0 (Ed.dats l) [] := Row.start hown hown.1 hlat1 _
  clear hown hgr hi hz0 hz1 hz2
  go_loopw [4] (fun i wr => ∃ (j : Nat) (F : List Nat), i = .int .i64 (j : Int) ∧ j ≤ l.length ∧ Row w wr 2 l.length j (Ed.dats l) F) (fun i _ => l.length - (intOf i).toNat)
  case atStart => exact ⟨0, [], rfl, Nat.zero_le _, hrow⟩
  case round =>
    obtain ⟨k, F, rfl, hk, hR⟩ := hrel
    by_cases hlt : k < l.length
    · obtain ⟨g, off, v0, rfl, hg, c0, c1, r0⟩ := Ed.elem (RdL.later hR.later h) k hlt
      have i1 : (k : Int) < (l.length : Int) := by omega
      have hE := toEd_any l[k] v0 wr r0 (by have := Ed.sz_at l k hlt; omega) 
      have HD : Hid ((Ed.dats l)[k]'(by rw [Ed.dats_len]; exact hlt) = l[k].dat) := Ed.dats_at l k hlt _
      clear r0 hrow hlat1
      go_wp2_with fail
      refine hE.mono ?_
      rintro e w2 ⟨b0, q0, G, rfl, hO, l2⟩
      obtain ⟨F', hN'⟩ := Row.next hR (by rw [Ed.dats_len]; exact hlt) (Ed.dats_len l) rfl (by rw [HD.out]; exact hO) l2
      have hlt2 := hR.lt
      have e0 : ∃ u, w2.cell? ⟨w.heap.size, k * 2, none⟩ = some u := by rw [Below.cell l2 (p := ⟨w.heap.size, k * 2, none⟩) hlt2]; exact (hR.at hlt 0 (by decide)).1
      obtain ⟨y0, e0⟩ := e0
      have f0 : w2.frozen? ⟨w.heap.size, k * 2, none⟩ = false := by rw [Below.frozen l2 (p := ⟨w.heap.size, k * 2, none⟩) hlt2]; exact (hR.at hlt 0 (by decide)).2
      have e1 : ∃ u, w2.cell? ⟨w.heap.size, k * 2 + 1, none⟩ = some u := by rw [Below.cell l2 (p := ⟨w.heap.size, k * 2 + 1, none⟩) hlt2]; exact (hR.at hlt 1 (by decide)).1
      obtain ⟨y1, e1⟩ := e1
      have f1 : w2.frozen? ⟨w.heap.size, k * 2 + 1, none⟩ = false := by rw [Below.frozen l2 (p := ⟨w.heap.size, k * 2 + 1, none⟩) hlt2]; exact (hR.at hlt 1 (by decide)).2
      clear hR hO hE h
      go_wp2_with fail
      go_roundw
      case rel => exact ⟨k + 1, F', by go_num, by omega, hN'⟩
      case measure => simp [intOf]; omega
    · have i1 : ¬ (k : Int) < (l.length : Int) := by omega
      have i2 : decide ((k : Int) < (l.length : Int)) = false := decide_eq_false i1
      have hkk : k = l.length := by omega
      subst hkk
      obtain ⟨G, hG⟩ := hR.done (cap := l.length) (Ed.dats_len l) hln ⟨Nat.le_refl _, by unfold maxLen; omega⟩
      have lr := hR.later
      clear hR h hrow
      go_wp2_with fail
      go_ret
      exact ⟨_, _, rfl, ⟨G, hG⟩, lr⟩

theorem Bl.own {w : World} {x : Bl} {u0 u1 u2 u3 : Value} {F0 F1 F2 F3 : List Nat} (h0 : OwnD w (.list 1 (In.dats x.params)) [u0] F0) (h1 : OwnD w (.list 1 (In.dats x.code)) [u1] F1) (h2 : OwnD w (.list 1 (In.dats x.args)) [u2] F2) (h3 : OwnD w (.list 2 (Ed.dats x.out)) [u3] F3) : OwnD w x.dat [u0, u1, .int .i64 x.term, u2, u3] (F0 ++ (F1 ++ (F2 ++ (F3)))) := by
  obtain ⟨params, code, term, args, out⟩ := x
  rw [Bl.dat, OwnD]
  rw [OwnAgg]
  refine ⟨[_], _, F0, _, rfl, rfl, h0, ?_⟩
  rw [OwnAgg]
  refine ⟨[_], _, F1, _, rfl, rfl, h1, ?_⟩
  rw [OwnAgg]
  refine ⟨[_], _, [], _, rfl, (List.nil_append _).symm, by rw [OwnD]; exact ⟨rfl, rfl⟩, ?_⟩
  rw [OwnAgg]
  refine ⟨[_], _, F2, _, rfl, rfl, h2, ?_⟩
  rw [OwnAgg]
  refine ⟨[_], _, F3, [], rfl, (List.append_nil _).symm, h3, ?_⟩
  rw [OwnAgg]
  exact ⟨rfl, rfl⟩
set_option maxHeartbeats 1000000 in
theorem toBl_any (x : Bl) (v0 v1 v2 v3 : Value) (w : World) (h0 : RdL w 1 v0 (In.dats x.params)) (h1 : RdL w 1 v1 (In.dats x.code)) (h2 : RdL w 1 v2 (In.dats x.args)) (h3 : RdL w 2 v3 (Ed.dats x.out)) (hsz : x.sz ≤ 1048576) :
    Calls Try.prog 38 #[.agg #[v0, v1, .int .i64 x.term, v2, v3]] w fun e w' => ∃ b0 q0 b1 q1 b2 q2 b3 q3 F, e = .returned (.agg #[.slice b0 x.params.length q0, .slice b1 x.code.length q1, .int .i64 x.term, .slice b2 x.args.length q2, .slice b3 x.out.length q3]) ∧ Own w.heap.size w' x.dat [.slice b0 x.params.length q0, .slice b1 x.code.length q1, .int .i64 x.term, .slice b2 x.args.length q2, .slice b3 x.out.length q3] F ∧ Later w w' := by
  have HO : Hid (∀ {w' : World} {u0 u1 u2 u3 : Value} {F0 F1 F2 F3 : List Nat}, OwnD w' (.list 1 (In.dats x.params)) [u0] F0 → OwnD w' (.list 1 (In.dats x.code)) [u1] F1 → OwnD w' (.list 1 (In.dats x.args)) [u2] F2 → OwnD w' (.list 2 (Ed.dats x.out)) [u3] F3 → OwnD w' x.dat [u0, u1, .int .i64 x.term, u2, u3] (F0 ++ (F1 ++ (F2 ++ (F3))))) := fun h0 h1 h2 h3 => Bl.own h0 h1 h2 h3
  have hsum : x.sz = In.szs x.params + In.szs x.code + In.szs x.args + Ed.szs x.out := by obtain ⟨params, code, term, args, out⟩ := x; rfl
  obtain ⟨a0, p0, rfl, _⟩ := In.slice h0
  have hs0 : In.szs x.params ≤ x.sz := by rw [hsum]; omega
  obtain ⟨a1, p1, rfl, _⟩ := In.slice h1
  have hs1 : In.szs x.code ≤ x.sz := by rw [hsum]; omega
  obtain ⟨a2, p2, rfl, _⟩ := In.slice h2
  have hs2 : In.szs x.args ≤ x.sz := by rw [hsum]; omega
  obtain ⟨a3, p3, rfl, _⟩ := Ed.slice h3
  have hs3 : Ed.szs x.out ≤ x.sz := by rw [hsum]; omega
  clear hsum
  generalize x.term = z_term at *
  go_enter Try.func38, Try.ntmps38
  go_wp2_with fail
  refine (toIns_any _ _ _ (RdL.later (by repeat (first | with_reducible exact Later.refl _ | refine Later.setAt ?_ (by omega) _ _ | refine Later.alloc ?_ _)) h0) (by omega)).mono ?_
  rintro e w1 ⟨b0, q0, G0, rfl, O0, l1⟩
  have L1 : Later w w1 := Later.trans (by repeat (first | with_reducible exact Later.refl _ | refine Later.setAt ?_ (by omega) _ _ | refine Later.alloc ?_ _)) l1
  have z1 : w.heap.size + 1 + 1 < w1.heap.size := by have := l1.size; simp at this; omega
  have y1 : w.heap.size + 1 < w1.heap.size := by omega
  have x1 : w.heap.size < w1.heap.size := by omega
  obtain ⟨hc1, hf1⟩ := bcell l1
  go_wp2_with fail
  refine (toIns_any _ _ _ (RdL.later (by repeat (first | with_reducible exact L1 | refine Later.setAt ?_ (by omega) _ _ | refine Later.alloc ?_ _)) h1) (by omega)).mono ?_
  rintro e w2 ⟨b1, q1, G1, rfl, O1, l2⟩
  have L2 : Later w w2 := Later.trans (by repeat (first | with_reducible exact L1 | refine Later.setAt ?_ (by omega) _ _ | refine Later.alloc ?_ _)) l2
  have z2 : w.heap.size + 1 + 1 < w2.heap.size := by have := l2.size; simp at this; omega
  have y2 : w.heap.size + 1 < w2.heap.size := by omega
  have x2 : w.heap.size < w2.heap.size := by omega
  obtain ⟨hc2, hf2⟩ := bcell l2
  have s2 : w1.heap.size ≤ w2.heap.size := by have := l2.size; simp at this; omega
  go_wp2_with fail
  refine (toIns_any _ _ _ (RdL.later (by repeat (first | with_reducible exact L2 | refine Later.setAt ?_ (by omega) _ _ | refine Later.alloc ?_ _)) h2) (by omega)).mono ?_
  rintro e w3 ⟨b2, q2, G2, rfl, O2, l3⟩
  have L3 : Later w w3 := Later.trans (by repeat (first | with_reducible exact L2 | refine Later.setAt ?_ (by omega) _ _ | refine Later.alloc ?_ _)) l3
  have z3 : w.heap.size + 1 + 1 < w3.heap.size := by have := l3.size; simp at this; omega
  have y3 : w.heap.size + 1 < w3.heap.size := by omega
  have x3 : w.heap.size < w3.heap.size := by omega
  obtain ⟨hc3, hf3⟩ := bcell l3
  have s3 : w2.heap.size ≤ w3.heap.size := by have := l3.size; simp at this; omega
  go_wp2_with fail
  refine (toEds_any _ _ _ (RdL.later (by repeat (first | with_reducible exact L3 | refine Later.setAt ?_ (by omega) _ _ | refine Later.alloc ?_ _)) h3) (by omega)).mono ?_
  rintro e w4 ⟨b3, q3, G3, rfl, O3, l4⟩
  have L4 : Later w w4 := Later.trans (by repeat (first | with_reducible exact L3 | refine Later.setAt ?_ (by omega) _ _ | refine Later.alloc ?_ _)) l4
  have z4 : w.heap.size + 1 + 1 < w4.heap.size := by have := l4.size; simp at this; omega
  have y4 : w.heap.size + 1 < w4.heap.size := by omega
  have x4 : w.heap.size < w4.heap.size := by omega
  obtain ⟨hc4, hf4⟩ := bcell l4
  have s4 : w3.heap.size ≤ w4.heap.size := by have := l4.size; simp at this; omega
  go_wp2_with fail
  refine bodyPost_ret (v := .agg #[.slice b0 x.params.length q0, .slice b1 x.code.length q1, .int .i64 z_term, .slice b2 x.args.length q2, .slice b3 x.out.length q3]) (by simp [results, Try.results38, go_sem, hc1, y1, hc2, y2, hc3, y3, hc4]) rfl ⟨b0, q0, b1, q1, b2, q2, b3, q3, _, rfl, Own.mk' (HO.out (O0.kept (by repeat (first | with_reducible exact Kept.refl _ _ | refine Kept.setAt ?_ (by first | omega | (simp; done) | (simp; omega)) _ _ | refine Kept.later ?_ l2 | refine Kept.later ?_ l3 | refine Kept.later ?_ l4))) (O1.kept (by repeat (first | with_reducible exact Kept.refl _ _ | refine Kept.setAt ?_ (by first | omega | (simp; done) | (simp; omega)) _ _ | refine Kept.later ?_ l3 | refine Kept.later ?_ l4))) (O2.kept (by repeat (first | with_reducible exact Kept.refl _ _ | refine Kept.setAt ?_ (by first | omega | (simp; done) | (simp; omega)) _ _ | refine Kept.later ?_ l4))) (O3.kept (by repeat (first | with_reducible exact Kept.refl _ _ | refine Kept.setAt ?_ (by first | omega | (simp; done) | (simp; omega)) _ _)))) (Fr.app (mid := w1.heap.size) (O0.fr.mono (by first | omega | (simp; done) | (simp; omega)) (by first | omega | (simp; done) | (simp; omega))) (Fr.app (mid := w2.heap.size) (O1.fr.mono (by first | omega | (simp; done) | (simp; omega)) (by first | omega | (simp; done) | (simp; omega))) (Fr.app (mid := w3.heap.size) (O2.fr.mono (by first | omega | (simp; done) | (simp; omega)) (by first | omega | (simp; done) | (simp; omega))) (O3.fr.mono (by first | omega | (simp; done) | (simp; omega)) (by first | omega | (simp; done) | (simp; omega))) (by first | omega | (simp; done) | (simp; omega)) (by first | omega | (simp; done) | (simp; omega))) (by first | omega | (simp; done) | (simp; omega)) (by first | omega | (simp; done) | (simp; omega))) (by first | omega | (simp; done) | (simp; omega)) (by first | omega | (simp; done) | (simp; omega))), (by repeat (first | with_reducible exact L4 | refine Later.setAt ?_ (by omega) _ _ | refine Later.alloc ?_ _))⟩

theorem Try.info77 : (Try.prog.info? 77).map (fun i => (i.zero, i.size, i.bytes)) = some (some (.agg #[.slice none 0 0, .slice none 0 0, .int .i64 0, .slice none 0 0, .slice none 0 0]), 5, 104) := by kernel_rfl
set_option maxHeartbeats 2000000 in
theorem toBls_any (v : Value) (l : List Bl) (w : World) (h : RdL w 5 v (Bl.dats l)) (hM : Bl.szs l ≤ 1048576) :
    Calls Try.prog 21 #[v] w fun e w' => ∃ a c F, e = .returned (.slice a l.length c) ∧ Own w.heap.size w' (.list 5 (Bl.dats l)) [.slice a l.length c] F ∧ Later w w' := by
  obtain ⟨a, cap, rfl, hl⟩ := Bl.slice h
  have hge := Bl.szs_ge l
  have hln : l.length ≤ 1048576 := by omega
  obtain ⟨i0, hi, hz0, hz1, hz2⟩ := info_parts Try.info77
  go_enter Try.func21, Try.ntmps21
  go_wp2_with (at_make; refine wpList_make_full _ rfl _ _ 35 rfl w.heap.size 77 i0 (.agg #[.slice none 0 0, .slice none 0 0, .int .i64 0, .slice none 0 0, .slice none 0 0]) 5 Try.underlying35 hi hz0 hz1 .i64 .i64 _ _ l.length rfl rfl rfl rfl (by rw [hz2]; omega) (by unfold maxLen; omega) (Nat.le_refl _) ?_; intro w1 hown hgr)
  have hlat1 : Later w w1 := (Below.refl _ _).grown hgr (Nat.le_refl _) (fun k h => by cases h)
  have hrow : Row w w1 5 l.length 0 (Bl.dats l) [] := Row.start hown hown.1 hlat1 _
  clear hown hgr hi hz0 hz1 hz2
  go_loopw [4] (fun i wr => ∃ (j : Nat) (F : List Nat), i = .int .i64 (j : Int) ∧ j ≤ l.length ∧ Row w wr 5 l.length j (Bl.dats l) F) (fun i _ => l.length - (intOf i).toNat)
  case atStart => exact ⟨0, [], rfl, Nat.zero_le _, hrow⟩
  case round =>
    obtain ⟨k, F, rfl, hk, hR⟩ := hrel
    by_cases hlt : k < l.length
    · obtain ⟨g, off, v0, v1, v2, v3, rfl, hg, c0, c1, c2, c3, c4, r0, r1, r2, r3⟩ := Bl.elem (RdL.later hR.later h) k hlt
      have i1 : (k : Int) < (l.length : Int) := by omega
      have hE := toBl_any l[k] v0 v1 v2 v3 wr r0 r1 r2 r3 (by have := Bl.sz_at l k hlt; omega) 
      have HD : Hid ((Bl.dats l)[k]'(by rw [Bl.dats_len]; exact hlt) = l[k].dat) := Bl.dats_at l k hlt _
      clear r0 r1 r2 r3 hrow hlat1
      go_wp2_with fail
      refine hE.mono ?_
      rintro e w2 ⟨b0, q0, b1, q1, b2, q2, b3, q3, G, rfl, hO, l2⟩
      obtain ⟨F', hN'⟩ := Row.next hR (by rw [Bl.dats_len]; exact hlt) (Bl.dats_len l) rfl (by rw [HD.out]; exact hO) l2
      have hlt2 := hR.lt
      have e0 : ∃ u, w2.cell? ⟨w.heap.size, k * 5, none⟩ = some u := by rw [Below.cell l2 (p := ⟨w.heap.size, k * 5, none⟩) hlt2]; exact (hR.at hlt 0 (by decide)).1
      obtain ⟨y0, e0⟩ := e0
      have f0 : w2.frozen? ⟨w.heap.size, k * 5, none⟩ = false := by rw [Below.frozen l2 (p := ⟨w.heap.size, k * 5, none⟩) hlt2]; exact (hR.at hlt 0 (by decide)).2
      have e1 : ∃ u, w2.cell? ⟨w.heap.size, k * 5 + 1, none⟩ = some u := by rw [Below.cell l2 (p := ⟨w.heap.size, k * 5 + 1, none⟩) hlt2]; exact (hR.at hlt 1 (by decide)).1
      obtain ⟨y1, e1⟩ := e1
      have f1 : w2.frozen? ⟨w.heap.size, k * 5 + 1, none⟩ = false := by rw [Below.frozen l2 (p := ⟨w.heap.size, k * 5 + 1, none⟩) hlt2]; exact (hR.at hlt 1 (by decide)).2
      have e2 : ∃ u, w2.cell? ⟨w.heap.size, k * 5 + 2, none⟩ = some u := by rw [Below.cell l2 (p := ⟨w.heap.size, k * 5 + 2, none⟩) hlt2]; exact (hR.at hlt 2 (by decide)).1
      obtain ⟨y2, e2⟩ := e2
      have f2 : w2.frozen? ⟨w.heap.size, k * 5 + 2, none⟩ = false := by rw [Below.frozen l2 (p := ⟨w.heap.size, k * 5 + 2, none⟩) hlt2]; exact (hR.at hlt 2 (by decide)).2
      have e3 : ∃ u, w2.cell? ⟨w.heap.size, k * 5 + 3, none⟩ = some u := by rw [Below.cell l2 (p := ⟨w.heap.size, k * 5 + 3, none⟩) hlt2]; exact (hR.at hlt 3 (by decide)).1
      obtain ⟨y3, e3⟩ := e3
      have f3 : w2.frozen? ⟨w.heap.size, k * 5 + 3, none⟩ = false := by rw [Below.frozen l2 (p := ⟨w.heap.size, k * 5 + 3, none⟩) hlt2]; exact (hR.at hlt 3 (by decide)).2
      have e4 : ∃ u, w2.cell? ⟨w.heap.size, k * 5 + 4, none⟩ = some u := by rw [Below.cell l2 (p := ⟨w.heap.size, k * 5 + 4, none⟩) hlt2]; exact (hR.at hlt 4 (by decide)).1
      obtain ⟨y4, e4⟩ := e4
      have f4 : w2.frozen? ⟨w.heap.size, k * 5 + 4, none⟩ = false := by rw [Below.frozen l2 (p := ⟨w.heap.size, k * 5 + 4, none⟩) hlt2]; exact (hR.at hlt 4 (by decide)).2
      clear hR hO hE h
      go_wp2_with fail
      go_roundw
      case rel => exact ⟨k + 1, F', by go_num, by omega, hN'⟩
      case measure => simp [intOf]; omega
    · have i1 : ¬ (k : Int) < (l.length : Int) := by omega
      have i2 : decide ((k : Int) < (l.length : Int)) = false := decide_eq_false i1
      have hkk : k = l.length := by omega
      subst hkk
      obtain ⟨G, hG⟩ := hR.done (cap := l.length) (Bl.dats_len l) hln ⟨Nat.le_refl _, by unfold maxLen; omega⟩
      have lr := hR.later
      clear hR h hrow
      go_wp2_with fail
      go_ret
      exact ⟨_, _, rfl, ⟨G, hG⟩, lr⟩

theorem Fc.own {w : World} {x : Fc} {u0 u1 u2 : Value} {F0 F1 F2 : List Nat} (h0 : OwnD w (.list 2 (Tp.dats x.params)) [u0] F0) (h1 : OwnD w (.list 5 (Va.dats x.vals)) [u1] F1) (h2 : OwnD w (.list 5 (Bl.dats x.blocks)) [u2] F2) : OwnD w x.dat [u0, .int .i64 x.rk, .int .i64 x.rn, u1, u2] (F0 ++ (F1 ++ (F2))) := by
  obtain ⟨params, rk, rn, vals, blocks⟩ := x
  rw [Fc.dat, OwnD]
  rw [OwnAgg]
  refine ⟨[_], _, F0, _, rfl, rfl, h0, ?_⟩
  rw [OwnAgg]
  refine ⟨[_], _, [], _, rfl, (List.nil_append _).symm, by rw [OwnD]; exact ⟨rfl, rfl⟩, ?_⟩
  rw [OwnAgg]
  refine ⟨[_], _, [], _, rfl, (List.nil_append _).symm, by rw [OwnD]; exact ⟨rfl, rfl⟩, ?_⟩
  rw [OwnAgg]
  refine ⟨[_], _, F1, _, rfl, rfl, h1, ?_⟩
  rw [OwnAgg]
  refine ⟨[_], _, F2, [], rfl, (List.append_nil _).symm, h2, ?_⟩
  rw [OwnAgg]
  exact ⟨rfl, rfl⟩
set_option maxHeartbeats 1000000 in
theorem toFc_any (x : Fc) (v0 v1 v2 : Value) (w : World) (h0 : RdL w 2 v0 (Tp.dats x.params)) (h1 : RdL w 5 v1 (Va.dats x.vals)) (h2 : RdL w 5 v2 (Bl.dats x.blocks)) (hsz : x.sz ≤ 1048576) :
    Calls Try.prog 6 #[.agg #[v0, .int .i64 x.rk, .int .i64 x.rn, v1, v2]] w fun e w' => ∃ b0 q0 b1 q1 b2 q2 F, e = .returned (.agg #[.slice b0 x.params.length q0, .int .i64 x.rk, .int .i64 x.rn, .slice b1 x.vals.length q1, .slice b2 x.blocks.length q2]) ∧ Own w.heap.size w' x.dat [.slice b0 x.params.length q0, .int .i64 x.rk, .int .i64 x.rn, .slice b1 x.vals.length q1, .slice b2 x.blocks.length q2] F ∧ Later w w' := by
  have HO : Hid (∀ {w' : World} {u0 u1 u2 : Value} {F0 F1 F2 : List Nat}, OwnD w' (.list 2 (Tp.dats x.params)) [u0] F0 → OwnD w' (.list 5 (Va.dats x.vals)) [u1] F1 → OwnD w' (.list 5 (Bl.dats x.blocks)) [u2] F2 → OwnD w' x.dat [u0, .int .i64 x.rk, .int .i64 x.rn, u1, u2] (F0 ++ (F1 ++ (F2)))) := fun h0 h1 h2 => Fc.own h0 h1 h2
  have hsum : x.sz = Tp.szs x.params + Va.szs x.vals + Bl.szs x.blocks := by obtain ⟨params, rk, rn, vals, blocks⟩ := x; rfl
  obtain ⟨a0, p0, rfl, _⟩ := Tp.slice h0
  have hs0 : Tp.szs x.params ≤ x.sz := by rw [hsum]; omega
  obtain ⟨a1, p1, rfl, _⟩ := Va.slice h1
  have hs1 : Va.szs x.vals ≤ x.sz := by rw [hsum]; omega
  obtain ⟨a2, p2, rfl, _⟩ := Bl.slice h2
  have hs2 : Bl.szs x.blocks ≤ x.sz := by rw [hsum]; omega
  clear hsum
  generalize x.rk = z_rk at *
  generalize x.rn = z_rn at *
  go_enter Try.func6, Try.ntmps6
  go_wp2_with fail
  refine (toTps_any _ _ _ (RdL.later (by repeat (first | with_reducible exact Later.refl _ | refine Later.setAt ?_ (by omega) _ _ | refine Later.alloc ?_ _)) h0) (by omega)).mono ?_
  rintro e w1 ⟨b0, q0, G0, rfl, O0, l1⟩
  have L1 : Later w w1 := Later.trans (by repeat (first | with_reducible exact Later.refl _ | refine Later.setAt ?_ (by omega) _ _ | refine Later.alloc ?_ _)) l1
  have z1 : w.heap.size + 1 + 1 < w1.heap.size := by have := l1.size; simp at this; omega
  have y1 : w.heap.size + 1 < w1.heap.size := by omega
  have x1 : w.heap.size < w1.heap.size := by omega
  obtain ⟨hc1, hf1⟩ := bcell l1
  go_wp2_with fail
  refine (toTy_any _ _ _).mono ?_
  rintro e w2 ⟨rfl, l2⟩
  have L2 : Later w w2 := Later.trans (by repeat (first | with_reducible exact L1 | refine Later.setAt ?_ (by omega) _ _ | refine Later.alloc ?_ _)) l2
  have z2 : w.heap.size + 1 + 1 < w2.heap.size := by have := l2.size; simp at this; omega
  have y2 : w.heap.size + 1 < w2.heap.size := by omega
  have x2 : w.heap.size < w2.heap.size := by omega
  obtain ⟨hc2, hf2⟩ := bcell l2
  have s2 : w1.heap.size ≤ w2.heap.size := by have := l2.size; simp at this; omega
  go_wp2_with fail
  refine (toVas_any _ _ _ (RdL.later (by repeat (first | with_reducible exact L2 | refine Later.setAt ?_ (by omega) _ _ | refine Later.alloc ?_ _)) h1) (by omega)).mono ?_
  rintro e w3 ⟨b1, q1, G1, rfl, O1, l3⟩
  have L3 : Later w w3 := Later.trans (by repeat (first | with_reducible exact L2 | refine Later.setAt ?_ (by omega) _ _ | refine Later.alloc ?_ _)) l3
  have z3 : w.heap.size + 1 + 1 < w3.heap.size := by have := l3.size; simp at this; omega
  have y3 : w.heap.size + 1 < w3.heap.size := by omega
  have x3 : w.heap.size < w3.heap.size := by omega
  obtain ⟨hc3, hf3⟩ := bcell l3
  have s3 : w2.heap.size ≤ w3.heap.size := by have := l3.size; simp at this; omega
  go_wp2_with fail
  refine (toBls_any _ _ _ (RdL.later (by repeat (first | with_reducible exact L3 | refine Later.setAt ?_ (by omega) _ _ | refine Later.alloc ?_ _)) h2) (by omega)).mono ?_
  rintro e w4 ⟨b2, q2, G2, rfl, O2, l4⟩
  have L4 : Later w w4 := Later.trans (by repeat (first | with_reducible exact L3 | refine Later.setAt ?_ (by omega) _ _ | refine Later.alloc ?_ _)) l4
  have z4 : w.heap.size + 1 + 1 < w4.heap.size := by have := l4.size; simp at this; omega
  have y4 : w.heap.size + 1 < w4.heap.size := by omega
  have x4 : w.heap.size < w4.heap.size := by omega
  obtain ⟨hc4, hf4⟩ := bcell l4
  have s4 : w3.heap.size ≤ w4.heap.size := by have := l4.size; simp at this; omega
  go_wp2_with fail
  refine bodyPost_ret (v := .agg #[.slice b0 x.params.length q0, .int .i64 z_rk, .int .i64 z_rn, .slice b1 x.vals.length q1, .slice b2 x.blocks.length q2]) (by simp [results, Try.results6, go_sem, hc1, y1, hc2, y2, hc3, y3, hc4]) rfl ⟨b0, q0, b1, q1, b2, q2, _, rfl, Own.mk' (HO.out (O0.kept (by repeat (first | with_reducible exact Kept.refl _ _ | refine Kept.setAt ?_ (by first | omega | (simp; done) | (simp; omega)) _ _ | refine Kept.later ?_ l2 | refine Kept.later ?_ l3 | refine Kept.later ?_ l4))) (O1.kept (by repeat (first | with_reducible exact Kept.refl _ _ | refine Kept.setAt ?_ (by first | omega | (simp; done) | (simp; omega)) _ _ | refine Kept.later ?_ l4))) (O2.kept (by repeat (first | with_reducible exact Kept.refl _ _ | refine Kept.setAt ?_ (by first | omega | (simp; done) | (simp; omega)) _ _)))) (Fr.app (mid := w1.heap.size) (O0.fr.mono (by first | omega | (simp; done) | (simp; omega)) (by first | omega | (simp; done) | (simp; omega))) (Fr.app (mid := w3.heap.size) (O1.fr.mono (by first | omega | (simp; done) | (simp; omega)) (by first | omega | (simp; done) | (simp; omega))) (O2.fr.mono (by first | omega | (simp; done) | (simp; omega)) (by first | omega | (simp; done) | (simp; omega))) (by first | omega | (simp; done) | (simp; omega)) (by first | omega | (simp; done) | (simp; omega))) (by first | omega | (simp; done) | (simp; omega)) (by first | omega | (simp; done) | (simp; omega))), (by repeat (first | with_reducible exact L4 | refine Later.setAt ?_ (by omega) _ _ | refine Later.alloc ?_ _))⟩

end Go.Proofs.Ythammngddmkhhaa
