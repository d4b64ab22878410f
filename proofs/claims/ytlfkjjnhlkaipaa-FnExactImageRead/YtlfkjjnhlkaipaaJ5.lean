/- Trees copied by the laws' own functions to. -/
import Derived.Test.YtlfkjjnhlkaipaaJ3
namespace Go.Proofs.Ytlfkjjnhlkaipaa
open Go.RowKit

theorem Bs.own {w : World} {x : Bs} {u0 : Value} {F0 : List Nat} (h0 : OwnD w (.list 1 (Bo.dats x.l)) [u0] F0) : OwnD w x.dat [u0] (F0) := by
  obtain ⟨l⟩ := x
  rw [Bs.dat, OwnD]
  rw [OwnAgg]
  refine ⟨[_], _, F0, [], rfl, (List.append_nil _).symm, h0, ?_⟩
  rw [OwnAgg]
  exact ⟨rfl, rfl⟩
theorem Try.info3 : (Try.prog.info? 3).map (fun i => (i.zero, i.size, i.bytes)) = some (some (.int .i64 0), 1, 8) := by kernel_rfl
set_option maxHeartbeats 2000000 in
theorem toIns_any (v : Value) (l : List In) (w : World) (h : RdL w 1 v (In.dats l)) (hM : In.szs l ≤ 1048576) :
    Calls Try.prog 37 #[v] w fun e w' => ∃ a c F, e = .returned (.slice a l.length c) ∧ Own w.heap.size w' (.list 1 (In.dats l)) [.slice a l.length c] F ∧ Later w w' := by
  obtain ⟨a, cap, rfl, hl⟩ := In.slice h
  have hln : l.length ≤ 1048576 := hM
  obtain ⟨i0, hi, hz0, hz1, hz2⟩ := info_parts Try.info3
  go_enter Try.func37, Try.ntmps37
  go_wp2_with (at_make; refine wpList_make_full _ rfl _ _ 23 rfl w.heap.size 3 i0 (.int .i64 0) 1 Try.underlying23 hi hz0 hz1 .i64 .i64 _ _ l.length rfl rfl rfl rfl (by rw [hz2]; omega) (by unfold maxLen; omega) (Nat.le_refl _) ?_; intro w1 hown hgr)
  have hlat1 : Later w w1 := (Below.refl _ _).grown hgr (Nat.le_refl _) (fun k h => by cases h)
  have hrow : Row w w1 1 l.length 0 (In.dats l) [] := Row.start hown hown.1 hlat1 _
  clear hown hgr hi hz0 hz1 hz2
  go_loopw [4] (fun i wr => ∃ (j : Nat) (F : List Nat), i = .int .i64 (j : Int) ∧ j ≤ l.length ∧ Row w wr 1 l.length j (In.dats l) F) (fun i _ => l.length - (intOf i).toNat)
  case atStart => exact ⟨0, [], rfl, Nat.zero_le _, hrow⟩
  case round =>
    obtain ⟨k, F, rfl, hk, hR⟩ := hrel
    by_cases hlt : k < l.length
    · obtain ⟨g, off, rfl, hg, c0⟩ := In.elem (RdL.later hR.later h) k hlt
      have i1 : (k : Int) < (l.length : Int) := by omega
      have HD : (In.dats l)[k]'(by rw [In.dats_len]; exact hlt) = .int l[k] := List.getElem_map ..
      obtain ⟨F', hN'⟩ := Row.next hR (by rw [In.dats_len]; exact hlt) (In.dats_len l) (cs := [.int .i64 l[k]]) (G := []) rfl (by rw [HD]; exact Own.mk' (by rw [OwnD]; exact ⟨rfl, rfl⟩) (Fr.nil _ _)) (Later.refl _)
      obtain ⟨⟨y0, e0⟩, f0⟩ := hR.at hlt 0 (by decide)
      rw [Nat.mul_one] at hN' e0 f0
      rw [Nat.add_zero] at e0 f0
      have hN2 : Row w (wr.setCell ⟨w.heap.size, k, none⟩ (.int .i64 l[k])) 1 l.length (k + 1) (In.dats l) F' := hN'
      generalize l[k] = z at *
      clear hR h hrow HD hN'
      go_wp2_with fail
      go_roundw
      case rel => exact ⟨k + 1, F', by go_num, by omega, hN2⟩
      case measure => simp [intOf]; omega
    · have i1 : ¬ (k : Int) < (l.length : Int) := by omega
      have i2 : decide ((k : Int) < (l.length : Int)) = false := decide_eq_false i1
      have hkk : k = l.length := by omega
      subst hkk
      obtain ⟨G, hG⟩ := hR.done (cap := l.length) (In.dats_len l) hln ⟨Nat.le_refl _, by unfold maxLen; omega⟩
      have lr := hR.later
      clear hR h hrow
      go_wp2_with fail
      go_ret
      exact ⟨_, _, rfl, ⟨G, hG⟩, lr⟩

theorem Try.info4 : (Try.prog.info? 4).map (fun i => (i.zero, i.size, i.bytes)) = some (some (.bool false), 1, 1) := by kernel_rfl
theorem Is.own (w : World) (p : Is) : OwnD w (Is.dat p) [.int .i64 p.op, .int .i64 p.a, .int .i64 p.b, .int .i64 p.c, .int .i64 p.n] [] := by
  unfold Is.dat
  rw [OwnD, OwnAgg]
  refine ⟨[_], _, [], [], rfl, rfl, by rw [OwnD]; exact ⟨rfl, rfl⟩, ?_⟩
  rw [OwnAgg]
  refine ⟨[_], _, [], [], rfl, rfl, by rw [OwnD]; exact ⟨rfl, rfl⟩, ?_⟩
  rw [OwnAgg]
  refine ⟨[_], _, [], [], rfl, rfl, by rw [OwnD]; exact ⟨rfl, rfl⟩, ?_⟩
  rw [OwnAgg]
  refine ⟨[_], _, [], [], rfl, rfl, by rw [OwnD]; exact ⟨rfl, rfl⟩, ?_⟩
  rw [OwnAgg]
  refine ⟨[_], _, [], [], rfl, rfl, by rw [OwnD]; exact ⟨rfl, rfl⟩, ?_⟩
  rw [OwnAgg]
  exact ⟨rfl, rfl⟩
theorem Try.info60 : (Try.prog.info? 60).map (fun i => (i.zero, i.size, i.bytes)) = some (some (.agg #[.int .i64 0, .int .i64 0, .int .i64 0, .int .i64 0, .int .i64 0]), 5, 40) := by kernel_rfl
theorem Try.info54 : (Try.prog.info? 54).map (fun i => (i.zero, i.size, i.bytes)) = some (some (.slice none 0 0), 1, 24) := by kernel_rfl
theorem Ma.own {w : World} {x : Ma} {u0 : Value} {F0 : List Nat} (h0 : OwnD w (.list 1 (In.dats x.slots)) [u0] F0) : OwnD w x.dat [.int .i64 x.pc, u0] (F0) := by
  obtain ⟨pc, slots⟩ := x
  rw [Ma.dat, OwnD]
  rw [OwnAgg]
  refine ⟨[_], _, [], _, rfl, (List.nil_append _).symm, by rw [OwnD]; exact ⟨rfl, rfl⟩, ?_⟩
  rw [OwnAgg]
  refine ⟨[_], _, F0, [], rfl, (List.append_nil _).symm, h0, ?_⟩
  rw [OwnAgg]
  exact ⟨rfl, rfl⟩
theorem Try.info63 : (Try.prog.info? 63).map (fun i => (i.zero, i.size, i.bytes)) = some (some (.agg #[.int .i64 0, .slice none 0 0]), 2, 32) := by kernel_rfl
theorem Cd.own {w : World} {x : Cd} {u0 u1 : Value} {F0 F1 : List Nat} (h0 : OwnD w (.list 5 (Is.dats x.ins)) [u0] F0) (h1 : OwnD w (.list 2 (Ma.dats x.maps)) [u1] F1) : OwnD w x.dat [.int .i64 x.frame, .int .i64 x.params, u0, u1] (F0 ++ (F1)) := by
  obtain ⟨frame, params, ins, maps⟩ := x
  rw [Cd.dat, OwnD]
  rw [OwnAgg]
  refine ⟨[_], _, [], _, rfl, (List.nil_append _).symm, by rw [OwnD]; exact ⟨rfl, rfl⟩, ?_⟩
  rw [OwnAgg]
  refine ⟨[_], _, [], _, rfl, (List.nil_append _).symm, by rw [OwnD]; exact ⟨rfl, rfl⟩, ?_⟩
  rw [OwnAgg]
  refine ⟨[_], _, F0, _, rfl, rfl, h0, ?_⟩
  rw [OwnAgg]
  refine ⟨[_], _, F1, [], rfl, (List.append_nil _).symm, h1, ?_⟩
  rw [OwnAgg]
  exact ⟨rfl, rfl⟩
theorem Try.info58 : (Try.prog.info? 58).map (fun i => (i.zero, i.size, i.bytes)) = some (some (.agg #[.int .i64 0, .int .i64 0, .slice none 0 0, .slice none 0 0]), 4, 64) := by kernel_rfl
theorem Im.own {w : World} {x : Im} {u0 u1 : Value} {F0 F1 : List Nat} (h0 : OwnD w (.list 1 (Bs.dats x.structs)) [u0] F0) (h1 : OwnD w (.list 4 (Cd.dats x.codes)) [u1] F1) : OwnD w x.dat [u0, u1, .int .i64 x.main] (F0 ++ (F1)) := by
  obtain ⟨structs, codes, main⟩ := x
  rw [Im.dat, OwnD]
  rw [OwnAgg]
  refine ⟨[_], _, F0, _, rfl, rfl, h0, ?_⟩
  rw [OwnAgg]
  refine ⟨[_], _, F1, [], rfl, (List.append_nil _).symm, h1, ?_⟩
  rw [OwnAgg]
  refine ⟨[_], _, [], _, rfl, (List.nil_append _).symm, by rw [OwnD]; exact ⟨rfl, rfl⟩, ?_⟩
  rw [OwnAgg]
  exact ⟨rfl, rfl⟩
end Go.Proofs.Ytlfkjjnhlkaipaa
