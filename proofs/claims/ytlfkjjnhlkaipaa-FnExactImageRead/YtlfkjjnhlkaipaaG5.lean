/- Images by the program: how many bytes they have. -/
import Derived.Test.YtlfkjjnhlkaipaaG4
namespace Go.Proofs.Ytlfkjjnhlkaipaa
open Go.RowKit

theorem hidq {α : Type} (x : α) : ∃ T, Hid (T = x) := ⟨x, rfl⟩
/-- So many bytes has a code. -/
def cdSz (c : Cd) : Nat := 8 + 12 * c.ins.length + (4 * c.maps.length + 2 * Ma.pre c.maps c.maps.length)
def cdSzs : List Cd → Nat
  | [] => 0
  | c :: r => cdSz c + cdSzs r
theorem cdSzs_app (a b : List Cd) : cdSzs (a ++ b) = cdSzs a + cdSzs b := by
  induction a with
  | nil => rw [List.nil_append, cdSzs, Nat.zero_add]
  | cons x r ih => rw [List.cons_append, cdSzs, cdSzs, ih]; omega
theorem cdSzs_succ {l : List Cd} {k : Nat} (h : k < l.length) : cdSzs (l.take (k + 1)) = cdSzs (l.take k) + cdSz l[k] := by
  rw [List.take_succ_eq_append_getElem h, cdSzs_app, cdSzs, cdSzs, Nat.add_zero]
theorem cdSz_le (c : Cd) : cdSz c ≤ 8 + 12 * c.sz := by
  obtain ⟨f, p, is, ms⟩ := c
  have e := Ma.pre_all ms
  show 8 + 12 * is.length + (4 * ms.length + 2 * Ma.pre ms ms.length) ≤ 8 + 12 * (Is.szs is + Ma.szs ms)
  unfold Is.szs
  omega
theorem cdSzs_le (l : List Cd) : cdSzs l ≤ 12 * Cd.szs l := by
  induction l with
  | nil => exact Nat.zero_le _
  | cons x r ih => rw [cdSzs, Cd.szs]; have := cdSz_le x; omega
theorem cdSzs_pre (l : List Cd) (k : Nat) : cdSzs (l.take k) ≤ cdSzs l := by
  have e : cdSzs l = cdSzs (l.take k) + cdSzs (l.drop k) := by rw [← cdSzs_app, List.take_append_drop]
  omega
/-- So many bytes has an image. -/
def imSz (x : Im) : Nat := 8 + (2 * x.structs.length + Bs.pre x.structs x.structs.length) + cdSzs x.codes
theorem Im.sz_eq (x : Im) : x.sz = Bs.szs x.structs + Cd.szs x.codes := by obtain ⟨s, c, m⟩ := x; rfl
set_option maxRecDepth 20000 in
set_option maxHeartbeats 1000000 in
theorem isize_any (B : Nat) (x : Im) (sv cv : Value) (w : World) (hs : w.cell? ⟨B, 0, none⟩ = some sv) (hc : w.cell? ⟨B, 1, none⟩ = some cv) (hB : B < w.heap.size) (h0 : RdL w 1 sv (Bs.dats x.structs)) (h1 : RdL w 4 cv (Cd.dats x.codes)) (hsz : x.sz ≤ 1048576) :
    Calls Try.prog 52 #[.pointer (some ⟨B, 0, none⟩)] w fun e w' => e = .returned (.int .i64 (imSz x : Nat)) ∧ Later w w' := by
  have HC : Hid (∀ w', Later w w' → w'.cell? ⟨B, 1, none⟩ = some cv) := fun w' l => by rw [Below.cell l (p := ⟨B, 1, none⟩) hB]; exact hc
  have HE : Hid ((imSz x : Nat) = 8 + (2 * x.structs.length + Bs.pre x.structs x.structs.length) + cdSzs x.codes) := rfl
  generalize imSz x = M at *
  rw [Im.sz_eq] at hsz
  obtain ⟨a, cap, rfl, hl⟩ := Bs.slice h0
  obtain ⟨a', cap', rfl, hl'⟩ := Cd.slice h1
  go_enter Try.func52, Try.ntmps52
  go_wp2_with fail
  go_loopw [3, 15] (fun z i wr => ∃ (k : Nat), z = .int .i64 ((8 + (2 * k + Bs.pre x.structs k) : Nat) : Int) ∧ i = .int .i64 (k : Int) ∧ k ≤ x.structs.length ∧ Later w wr) (fun _ i _ => x.structs.length - (intOf i).toNat)
  case atStart => exact ⟨0, by rw [Bs.pre_zero]; rfl, rfl, Nat.zero_le _, Later.refl _⟩
  case round =>
    obtain ⟨k, rfl, rfl, hk, lr⟩ := hrel
    by_cases hlt : k < x.structs.length
    · obtain ⟨g, off, v0, rfl, hg, c0, r0⟩ := Bs.elem (RdL.later lr h0) k hlt
      rw [Nat.mul_one] at c0
      obtain ⟨a0, p0, rfl, hl0⟩ := Bo.slice r0
      have i1 : (k : Int) < (x.structs.length : Int) := by omega
      have e1 := Bs.pre_succ hlt
      have e2 : x.structs[k].sz = x.structs[k].l.length := by obtain ⟨l⟩ := x.structs[k]; rfl
      have e3 := Bs.pre_le x.structs (k + 1) (by omega)
      have HP : Hid (Bs.pre x.structs (k + 1) = Bs.pre x.structs k + x.structs[k].l.length) := by unfold Hid; rw [e1, e2]
      have b1 : -9223372036854775808 ≤ (2 : Int) + (x.structs[k].l.length : Int) := by omega
      have b2 : (2 : Int) + (x.structs[k].l.length : Int) ≤ 9223372036854775807 := by omega
      have b3 : -9223372036854775808 ≤ ((8 + (2 * k + Bs.pre x.structs k) : Nat) : Int) + (2 + (x.structs[k].l.length : Int)) := by omega
      have b4 : ((8 + (2 * k + Bs.pre x.structs k) : Nat) : Int) + (2 + (x.structs[k].l.length : Int)) ≤ 9223372036854775807 := by omega
      clear h0 h1 e1 e2 e3 r0
      generalize x.structs[k].l.length = n at *
      generalize hq : (8 + (2 * k + Bs.pre x.structs k) : Nat) = q at *
      have HQ : Hid (8 + (2 * k + Bs.pre x.structs k) = q) := hq
      clear hq
      go_wp2_with fail
      go_roundw
      case rel => exact ⟨k + 1, by rw [HP.out]; have := HQ.out; go_num, by go_num, by omega, lr⟩
      case measure => simp [intOf]; omega
    · have i1 : ¬ (k : Int) < (x.structs.length : Int) := by omega
      have i2 : decide ((k : Int) < (x.structs.length : Int)) = false := decide_eq_false i1
      have hkk : k = x.structs.length := by omega
      subst hkk
      have c1 := HC.out wr lr
      have hBw := Nat.lt_of_lt_of_le hB lr.size
      have hp := Bs.pre_all x.structs
      obtain ⟨q, hq⟩  := hidq (8 + (2 * x.structs.length + Bs.pre x.structs x.structs.length))
      have hq1 : q ≤ 8 + 2 * 1048576 := by have := hq.out; omega
      rw [← hq.out] at HE ⊢
      have hcs := cdSzs_le x.codes
      clear h0 hp hq
      go_wp2_with fail
      go_loopw [3, 30] (fun z i wr => ∃ (k : Nat), z = .int .i64 ((q + cdSzs (x.codes.take k) : Nat) : Int) ∧ i = .int .i64 (k : Int) ∧ k ≤ x.codes.length ∧ Later w wr) (fun _ i _ => x.codes.length - (intOf i).toNat)
      case atStart => exact ⟨0, rfl, rfl, Nat.zero_le _, lr⟩
      case round =>
        obtain ⟨k, rfl, rfl, hk, lr2⟩ := hrel
        by_cases hlt : k < x.codes.length
        · obtain ⟨g, off, v0, v1, rfl, hg, c0, c1', c2, c3, r0, r1⟩ := Cd.elem (RdL.later lr2 h1) k hlt
          have i1 : (k : Int) < (x.codes.length : Int) := by omega
          have e1 := cdSzs_succ hlt
          have e2 := cdSzs_pre x.codes (k + 1)
          have e3 : cdSz x.codes[k] = 8 + 12 * x.codes[k].ins.length + (4 * x.codes[k].maps.length + 2 * Ma.pre x.codes[k].maps x.codes[k].maps.length) := rfl
          have e4 := Ma.pre_all x.codes[k].maps
          obtain ⟨a0, p0, rfl, hl0⟩ := Is.slice r0
          obtain ⟨a1, p1, rfl, hl1⟩ := Ma.slice r1
          have HR : Hid (∀ w', Later wr w' → RdL w' 2 (.slice a1 x.codes[k].maps.length p1) (Ma.dats x.codes[k].maps)) := fun w' l => RdL.later l r1
          obtain ⟨t, ht⟩ := hidq (q + cdSzs (x.codes.take k))
          have HT : Hid (q + cdSzs (x.codes.take (k + 1)) = t + 8 + 12 * x.codes[k].ins.length + (4 * x.codes[k].maps.length + 2 * Ma.pre x.codes[k].maps x.codes[k].maps.length)) := by unfold Hid; rw [e1, e3, ht.out]; omega
          rw [← ht.out]
          have tb : t + 8 + 12 * x.codes[k].ins.length + (4 * x.codes[k].maps.length + 2 * Ma.pre x.codes[k].maps x.codes[k].maps.length) ≤ 100000000 := by have := HT.out; omega
          have HM : Hid (∀ m, m < x.codes[k].maps.length → Ma.pre x.codes[k].maps (m + 1) ≤ Ma.pre x.codes[k].maps x.codes[k].maps.length) := fun m hm => by
            have z1 := Ma.pre_le x.codes[k].maps (m + 1) hm
            have z2 := Ma.pre_all x.codes[k].maps
            omega
          generalize x.codes[k].frame = zf at *
          generalize x.codes[k].params = zp at *
          generalize x.codes[k].ins.length = ni at *
          have b1 : -9223372036854775808 ≤ (ni : Int) * 12 := by omega
          have b2 : (ni : Int) * 12 ≤ 9223372036854775807 := by omega
          have b3 : -9223372036854775808 ≤ 8 + (ni : Int) * 12 := by omega
          have b4 : 8 + (ni : Int) * 12 ≤ 9223372036854775807 := by omega
          have b5 : -9223372036854775808 ≤ (t : Int) + (8 + (ni : Int) * 12) := by omega
          have b6 : (t : Int) + (8 + (ni : Int) * 12) ≤ 9223372036854775807 := by omega
          clear h1 r0 r1 e1 e2 e3 e4 ht HC c1
          obtain ⟨wo, hwo⟩ := hidq wr
          rw [← hwo.out] at lr2 HR
          obtain ⟨wk, hwk⟩ := hidq (wr.alloc (.cells #[.int .i64 zf, .int .i64 zp, .slice a0 ni p0, .slice a1 x.codes[k].maps.length p1] 58))
          have lk : Later wo wk := by rw [hwk.out, hwo.out]; exact later1 _ _
          go_wp2_with fail
          rw [← hwk.out]
          clear hwk hwo
          go_loopw [3, 44] (fun z i wr => ∃ (m : Nat), z = .int .i64 ((t + 8 + 12 * ni + (4 * m + 2 * Ma.pre x.codes[k].maps m) : Nat) : Int) ∧ i = .int .i64 (m : Int) ∧ m ≤ x.codes[k].maps.length ∧ Later wo wr) (fun _ i _ => x.codes[k].maps.length - (intOf i).toNat)
          case atStart => exact ⟨0, by rw [Ma.pre_zero]; go_num, rfl, Nat.zero_le _, lk⟩
          case round =>
            obtain ⟨m, rfl, rfl, hm, lm⟩ := hrel
            by_cases hmt : m < x.codes[k].maps.length
            · obtain ⟨g2, off2, v2, rfl, hg2, d0, d1, s2⟩ := Ma.elem (HR.out _ lm) m hmt
              obtain ⟨a2, p2, rfl, hl2⟩ := In.slice s2
              have i2 : (m : Int) < (x.codes[k].maps.length : Int) := by omega
              have f1 := Ma.pre_succ hmt
              have f2 : x.codes[k].maps[m].sz = x.codes[k].maps[m].slots.length := by obtain ⟨pc, l⟩ := x.codes[k].maps[m]; rfl
              have f3 := HM.out m hmt
              have HP : Hid (Ma.pre x.codes[k].maps (m + 1) = Ma.pre x.codes[k].maps m + x.codes[k].maps[m].slots.length) := by unfold Hid; rw [f1, f2]
              have f4 : Ma.pre x.codes[k].maps m + x.codes[k].maps[m].slots.length ≤ Ma.pre x.codes[k].maps x.codes[k].maps.length := by rw [← HP.out]; exact f3
              generalize x.codes[k].maps[m].pc = zc at *
              generalize x.codes[k].maps[m].slots.length = ns at *
              obtain ⟨u, hu⟩ := hidq (t + 8 + 12 * ni + (4 * m + 2 * Ma.pre x.codes[k].maps m))
              have hu1 : u + 4 + 2 * ns ≤ 100000004 := by have := hu.out; omega
              rw [← hu.out]
              have b1 : -9223372036854775808 ≤ (ns : Int) * 2 := by omega
              have b2 : (ns : Int) * 2 ≤ 9223372036854775807 := by omega
              have b3 : -9223372036854775808 ≤ 4 + (ns : Int) * 2 := by omega
              have b4 : 4 + (ns : Int) * 2 ≤ 9223372036854775807 := by omega
              have b5 : -9223372036854775808 ≤ (u : Int) + (4 + (ns : Int) * 2) := by omega
              have b6 : (u : Int) + (4 + (ns : Int) * 2) ≤ 9223372036854775807 := by omega
              clear f1 f2 f3 f4 s2 HM
              go_wp2_with fail
              go_roundw
              case rel => exact ⟨m + 1, by rw [HP.out]; have := hu.out; go_num, by go_num, by omega, lm.trans (later1 _ _)⟩
              case measure => simp [intOf]; omega
            · have i2 : ¬ (m : Int) < (x.codes[k].maps.length : Int) := by omega
              have i3 : decide ((m : Int) < (x.codes[k].maps.length : Int)) = false := decide_eq_false i2
              have hmm : m = x.codes[k].maps.length := by omega
              subst hmm
              rw [← HT.out]
              clear HM HR
              go_wp2_with fail
              go_roundw
              case rel => exact ⟨k + 1, rfl, by go_num, by omega, lr2.trans lm⟩
              case measure => simp [intOf]; omega
        · have i1 : ¬ (k : Int) < (x.codes.length : Int) := by omega
          have i2 : decide ((k : Int) < (x.codes.length : Int)) = false := decide_eq_false i1
          have hkk : k = x.codes.length := by omega
          subst hkk
          rw [List.take_length]
          have HM : Hid (q + cdSzs x.codes = M) := HE.out.symm
          rw [HM.out]
          clear h1 HE HM hcs
          go_wp2_with fail
          go_ret
          exact ⟨rfl, lr2⟩
end Go.Proofs.Ytlfkjjnhlkaipaa
