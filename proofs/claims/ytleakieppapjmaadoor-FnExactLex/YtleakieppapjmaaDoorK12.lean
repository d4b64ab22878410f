/- The walk of spec.Lex. -/
import Derived.Test.YtleakieppapjmaaDoorK11
import Derived.Deep.CutRange
import Derived.Deep.CutBlock
namespace Go.Proofs.YtleakieppapjmaaDoor.KL
open Go.RowKit

theorem Tryd.info34 : (Tryd.prog.info? 34).map (fun i => (i.zero, i.size, i.bytes)) = some (some (.agg #[.int .i64 0, .int .i64 0, .int .i64 0, .slice none 0 0]), 4, 48) := by kernel_rfl
theorem buildT4 (a : Int) (x : Option Addr) (n c : Nat) (w : World) : (Instr.build 34 #[(0, .int .i64 4), (1, .int .i64 a), (3, .slice x n c)]).run Tryd.prog w = .ok (.agg #[.int .i64 4, .int .i64 a, .int .i64 0, .slice x n c]) w := run_build w 34 _ _ (by kernel_rfl)
theorem buildT1 (a : Int) (x : Option Addr) (n c : Nat) (w : World) : (Instr.build 34 #[(0, .int .i64 1), (1, .int .i64 a), (3, .slice x n c)]).run Tryd.prog w = .ok (.agg #[.int .i64 1, .int .i64 a, .int .i64 0, .slice x n c]) w := run_build w 34 _ _ (by kernel_rfl)
theorem buildT2 (a b : Int) (w : World) : (Instr.build 34 #[(0, .int .i64 2), (1, .int .i64 a), (2, .int .i64 b)]).run Tryd.prog w = .ok (.agg #[.int .i64 2, .int .i64 a, .int .i64 b, .slice none 0 0]) w := run_build w 34 _ _ (by kernel_rfl)
theorem buildT3 (a b : Int) (w : World) : (Instr.build 34 #[(0, .int .i64 3), (1, .int .i64 a), (2, .int .i64 b)]).run Tryd.prog w = .ok (.agg #[.int .i64 3, .int .i64 a, .int .i64 b, .slice none 0 0]) w := run_build w 34 _ _ (by kernel_rfl)

theorem own_none (w : World) : (w.alloc (.cells #[] 5)).ownsRow w.heap.size 5 1 (.slice (some ⟨w.heap.size, 0, none⟩) 0 0) 0 [] :=
  ⟨rfl, .inr ⟨w.heap.size, 0, #[], rfl, Nat.le_refl _, by show (w.heap.push _)[w.heap.size]? = _; simp, Nat.le_refl _, by unfold maxLen; omega, rfl, rfl⟩⟩
theorem new_tok (w : World) (a b c d : Value) : ∀ j u, [a, b, c, d][j]? = some u → (w.alloc (.cells #[a, b, c, d] 34)).cell? ((⟨w.heap.size, 0, none⟩ : Addr).add j) = some u := by
  intro j u h
  rw [Addr.add_lit, Nat.zero_add]
  match j with
  | 0 => rw [← h]; simp
  | 1 => rw [← h]; simp
  | 2 => rw [← h]; simp
  | 3 => rw [← h]; simp
  | j + 4 => simp at h
theorem src_cut {w : World} {g off cap : Nat} {zs : List Int} (h : RdB w (.slice (some ⟨g, off, none⟩) zs.length cap) zs) {i j : Nat} (hj : j ≤ zs.length) : ∀ m u, ((cutL zs i j).map (Value.int .u8))[m]? = some u → w.cell? ((⟨g, off + i, none⟩ : Addr).add m) = some u := by
  intro m u hm
  have hml : m < j - i := by
    rcases Nat.lt_or_ge m (j - i) with h | h
    · exact h
    · rw [List.getElem?_eq_none (by rw [List.length_map, cutL_len hj]; exact h)] at hm; cases hm
  obtain ⟨_, _, e, _, _, hc⟩ := h
  cases e
  obtain ⟨_, _, e, _, hv⟩ := hc (i + m) (by omega)
  cases e
  rw [Addr.add_lit, Nat.add_assoc, hv]
  rw [List.getElem?_map] at hm
  have hl : m < (cutL zs i j).length := by rw [cutL_len hj]; exact hml
  have hg := cutL_get (zs := zs) (i := i) hj hml
  rw [List.getD_eq_getElem?_getD, List.getElem?_eq_getElem hl] at hg
  rw [List.getElem?_eq_getElem hl] at hm
  rw [← hg]
  exact hm
def LexP (T : List Tok) (B : Int) (w : World) (e : Ending) (w' : World) : Prop := ∃ tv, e = .returned (.tuple #[tv, .int .i64 B]) ∧ RdT w' tv T ∧ Later w w'
theorem pieceT_int {p : List Int} {k : Nat} {n : Int} (h : intOfL p = some n) : pieceT p k = some (2, (k : Int), n, []) := by unfold pieceT; rw [h]
theorem pieceT_flo {p : List Int} {k : Nat} {n : Int} (h : intOfL p = none) (h' : floatOfL p = some n) : pieceT p k = some (3, (k : Int), n, []) := by unfold pieceT; rw [h, h']
theorem pieceT_word {p : List Int} {k : Nat} (h : intOfL p = none) (h' : floatOfL p = none) (hw : (wordL p false || wordL p true) = true) : pieceT p k = some (1, (k : Int), 0, p) := by unfold pieceT; rw [h, h']; simp only [hw, if_true]
theorem pieceT_no {p : List Int} {k : Nat} (h : intOfL p = none) (h' : floatOfL p = none) (hw : (wordL p false || wordL p true) = false) : pieceT p k = none := by unfold pieceT; rw [h, h']; simp only [hw]; rfl
theorem own_form {w : World} {b n sz : Nat} {t : TypeId} {v : Value} {xs : List Value} (h : w.ownsRow b t sz v n xs) : ∃ a c, v = .slice a n c := by
  rcases h.2 with ⟨rfl, h0⟩ | ⟨g, c, _, rfl, _⟩
  · exact ⟨none, 0, by rw [h0]⟩
  · exact ⟨_, _, rfl⟩
theorem dig_true {z : Int} (a : 48 ≤ z) (b : z ≤ 57) : dig z = true := by unfold dig; rw [decide_eq_true a, decide_eq_true b]; rfl
theorem dig_false {z : Int} (h : ¬ (48 ≤ z ∧ z ≤ 57)) : dig z = false := by
  unfold dig
  rw [← Bool.not_eq_true, Bool.and_eq_true, decide_eq_true_eq, decide_eq_true_eq]
  exact h
theorem slice_len (a : Option Addr) (c : Nat) {m n : Nat} (h : m = n) : Value.slice a m c = .slice a n c := by rw [h]
theorem own_len {w : World} {b sz m n : Nat} {t : TypeId} {v : Value} {xs : List Value} (h : w.ownsRow b t sz v m xs) (e : m = n) : w.ownsRow b t sz v n xs := e ▸ h
theorem ones (xs : List Int) : ∀ u ∈ xs.map (Value.int .u8), u.oneCell' = true := fun u hu => by
  obtain ⟨z, _, rfl⟩ := List.mem_map.1 hu
  rfl

set_option maxRecDepth 20000 in
set_option maxHeartbeats 8000000 in
theorem lexs_any : LexR 4 lexT lexB := by
  intro a cap zs w h hs hcap hmax
  obtain ⟨_, _, e, hl, hz, hc⟩ := id h
  cases e
  obtain ⟨i5, hi5, hz50, hz51, hz52⟩ := info_parts Tryd.info5
  obtain ⟨iT, hiT, hzT0, hzT1, hzT2⟩ := info_parts Tryd.info34
  by_cases h6 : 6000 < zs.length
  · have h6' : (6000 : Int) < (zs.length : Int) := by omega
    have e1 : lexT zs = [] := by unfold lexT lexL; rw [if_pos (by simpa using h6)]
    have e2 : lexB zs = 0 := by unfold lexB lexL; rw [if_pos (by simpa using h6)]
    rw [e1, e2]
    clear hc h
    go_enter Tryd.func4, Tryd.ntmps4
    go_wp2_with fail
    go_ret2
    exact ⟨_, rfl, RdT.nil _, Later.refl _⟩
  have h6' : ¬ (6000 : Int) < (zs.length : Int) := by omega
  have HT : Hid (lexT zs = (lexR zs zs.length 0 []).1) := by show _ = _; unfold lexT lexL; rw [if_neg (by simpa using h6)]
  have HB : Hid (lexB zs = (lexR zs zs.length 0 []).2) := by show _ = _; unfold lexB lexL; rw [if_neg (by simpa using h6)]
  generalize lexT zs = TT at *
  generalize lexB zs = BB at *
  refine Calls.mono (R := fun e w' => LexP TT BB w e w') ?_ (fun e w' h => h)
  have hmax' : (cap : Int) ≤ 9223372036854775807 := by unfold maxLen at hmax; omega
  clear hmax
  have b1 := buildT1
  have b2 := buildT2
  have b3 := buildT3
  have b4 := buildT4
  go_enter Tryd.func4, Tryd.ntmps4
  go_wp2_with fail
  go_loopw [4, 5] (fun out i wr => ∃ (k : Nat) (ps : List (Tok × Value)) (ao : Option Addr) (po : Nat), out = .slice ao ps.length po ∧ i = .int .i64 (k : Int) ∧ k ≤ zs.length ∧ ps.length ≤ k ∧ OutOK w.heap.size wr (.slice ao ps.length po) ps ∧ Later w wr ∧ Hid (SoFar zs k (ps.map (·.1)))) (fun _ i _ => zs.length - (intOf i).toNat)
  case atStart => exact ⟨0, [], none, 0, rfl, rfl, Nat.zero_le _, Nat.le_refl _, OutOK.nil _ _, Later.refl _, SoFar.start zs⟩
  case round =>
    obtain ⟨k, ps, ao, po, rfl, rfl, hk, hpk, ho, lr, HS⟩ := hrel
    by_cases hlt : k < zs.length
    · obtain ⟨g, off, rfl, _, _⟩ := hc k hlt
      have hR := h.later lr
      have hcell : Hid (∀ j, j < zs.length → wr.cell? ⟨g, off + j, none⟩ = some (.int .u8 (zs.getD j 0))) := fun j hj => by
        obtain ⟨_, _, e, _, _, hc'⟩ := id hR
        cases e
        obtain ⟨_, _, e, _, hv⟩ := hc' j hj
        cases e
        exact hv
      have hv := hcell.out k hlt
      have i1 : (k : Int) < (zs.length : Int) := by omega
      have i1' : (zs.length : Int) ≤ 6000 := by omega
      have HZ : Hid (∃ z, zs.getD k 0 = z) := ⟨_, rfl⟩
      clear hc
      by_cases hz32 : zs.getD k 0 = 32
      · as_aux_lemma =>
          have hst : stepL zs k = some ([], k + 1) := by unfold stepL blankB; rw [hz32]; rfl
          have hn := HS.out.next hlt hst (Nat.lt_succ_self k)
          rw [List.append_nil] at hn
          rw [hz32] at hv
          clear hst hcell
          go_wp2_with fail
          go_roundw
          case rel => exact ⟨k + 1, ps, _, _, rfl, by go_num, by omega, by omega, ho, lr, hn⟩
          case measure => simp [intOf]; omega
      by_cases hz10 : zs.getD k 0 = 10
      · as_aux_lemma =>
          have hst : stepL zs k = some ([], k + 1) := by unfold stepL blankB; rw [hz10]; rfl
          have hn := HS.out.next hlt hst (Nat.lt_succ_self k)
          rw [List.append_nil] at hn
          rw [hz10] at hv
          clear hst hcell
          go_wp2_with fail
          go_roundw
          case rel => exact ⟨k + 1, ps, _, _, rfl, by go_num, by omega, by omega, ho, lr, hn⟩
          case measure => simp [intOf]; omega
      have hb32 : (zs.getD k 0 == 32) = false := by rw [beq_eq_false_iff_ne]; exact hz32
      have hb10 : (zs.getD k 0 == 10) = false := by rw [beq_eq_false_iff_ne]; exact hz10
      have hnb : ¬ blankB (zs.getD k 0) = true := by unfold blankB; rw [hb32, hb10]; decide
      have hv1 : Hid (∀ (_ : k + 1 < zs.length), wr.cell? ⟨g, off + (k + 1), none⟩ = some (.int .u8 (zs.getD (k + 1) 0))) := fun h1 => hcell.out (k + 1) h1
      obtain ⟨D, hD⟩ : ∃ D, Hid (D = (dig (zs.getD k 0) || ((zs.getD k 0 == 45) && decide (k + 1 < zs.length) && dig (zs.getD (k + 1) 0)))) := ⟨_, rfl⟩
      have hD1 : Hid (48 ≤ zs.getD k 0 → zs.getD k 0 ≤ 57 → D = true) := fun a b => by rw [hD.out, dig_true a b]; rfl
      have hD2 : Hid (¬ (48 ≤ zs.getD k 0 ∧ zs.getD k 0 ≤ 57) → ¬ zs.getD k 0 = 45 → D = false) := fun a b => by
        rw [hD.out, (beq_eq_false_iff_ne).2 b, dig_false a]; rfl
      have hD3 : Hid (zs.getD k 0 = 45 → ¬ k + 1 < zs.length → D = false) := fun a b => by
        rw [hD.out, a, decide_eq_false b]; rfl
      have hD4 : Hid (zs.getD k 0 = 45 → k + 1 < zs.length → D = dig (zs.getD (k + 1) 0)) := fun a b => by
        rw [hD.out, a, decide_eq_true b]; show (false || (true && true && _)) = _; simp
      generalize hz1k : zs.getD (k + 1) 0 = z1 at hv1 hD4
      have HZ1 : Hid (zs.getD (k + 1) 0 = z1) := hz1k
      clear hz1k
      generalize hzk : zs.getD k 0 = z at hv hD1 hD2 hD3 hD4 hb32 hb10 hz32 hz10
      have HZK : Hid (zs.getD k 0 = z) := hzk
      clear hzk
      go_upto_region 10 with fail
      go_cut [8] from 17 to 164 (fun s8 wc => s8 = .bool D ∧ wc = wr)
      case first =>
        by_cases c45 : z = 45
        · subst c45
          by_cases h1 : k + 1 < zs.length
          · have hv1' := hv1.out h1
            have i2 : (k : Int) + 1 < (zs.length : Int) := by omega
            rcases (by omega : (z1 < 48) ∨ (48 ≤ z1 ∧ z1 ≤ 57) ∨ (57 < z1)) with c | c | c
            · have c1 : ¬ 48 ≤ z1 := by omega
              as_aux_lemma =>
                have eD := (hD4.out rfl h1).trans (dig_false (by omega))
                subst eD
                clear hD hD1 hD2 hD3 hD4 hnb
                go_wp2_with fail
                go_meet
                case rel => exact ⟨rfl, rfl⟩
            · obtain ⟨c1, c2⟩ := c
              as_aux_lemma =>
                have eD := (hD4.out rfl h1).trans (dig_true c1 c2)
                subst eD
                clear hD hD1 hD2 hD3 hD4 hnb
                go_wp2_with fail
                go_meet
                case rel => exact ⟨rfl, rfl⟩
            · have c1 : 48 ≤ z1 := by omega
              have c2 : ¬ z1 ≤ 57 := by omega
              as_aux_lemma =>
                have eD := (hD4.out rfl h1).trans (dig_false (by omega))
                subst eD
                clear hD hD1 hD2 hD3 hD4 hnb
                go_wp2_with fail
                go_meet
                case rel => exact ⟨rfl, rfl⟩
          · have i2 : ¬ (k : Int) + 1 < (zs.length : Int) := by omega
            as_aux_lemma =>
              have eD := hD3.out rfl h1
              subst eD
              clear hD hD1 hD2 hD3 hD4 hnb
              go_wp2_with fail
              go_meet
              case rel => exact ⟨rfl, rfl⟩
        · rcases (by omega : (z < 48) ∨ (48 ≤ z ∧ z ≤ 57) ∨ (57 < z)) with c | c | c
          · have c1 : ¬ 48 ≤ z := by omega
            as_aux_lemma =>
              have eD := hD2.out (by omega) c45
              subst eD
              clear hD hD1 hD2 hD3 hD4 hnb
              go_wp2_with fail
              go_meet
              case rel => exact ⟨rfl, rfl⟩
          · obtain ⟨c1, c2⟩ := c
            as_aux_lemma =>
              have eD := hD1.out c1 c2
              subst eD
              clear hD hD1 hD2 hD3 hD4 hnb
              go_wp2_with fail
              go_meet
              case rel => exact ⟨rfl, rfl⟩
          · have c1 : 48 ≤ z := by omega
            have c2 : ¬ z ≤ 57 := by omega
            as_aux_lemma =>
              have eD := hD2.out (by omega) c45
              subst eD
              clear hD hD1 hD2 hD3 hD4 hnb
              go_wp2_with fail
              go_meet
              case rel => exact ⟨rfl, rfl⟩
      case rest =>
        obtain ⟨rfl, hwc⟩ := hcut
        obtain rfl := hwc.symm
        have HSB : Hid (startB zs k = (inner z || D)) := by
          show _ = _
          unfold startB
          rw [hD.out, HZK.out]
          cases hI : inner z
          · have : dig z = false := by
              unfold inner at hI
              rw [Bool.or_eq_false_iff] at hI
              exact hI.2
            rw [this]; rfl
          · rfl
        clear hD hD1 hD2 hD3 hD4 hb32 hb10
        go_upto_region 11 with fail
        go_cut [71] from 17 to 164 (fun s71 wc => s71 = .bool (!(inner z) && !D) ∧ wc = wr)
        case first =>
          cases hI : inner z
          · cases D
            all_goals
              go_wp2_with (go_at_call 12; refine (inner_any _ _).mono ?_; rintro e w' ⟨rfl, hww⟩; obtain rfl := hww.symm)
              go_meet
              case rel => exact ⟨by rw [hI]; rfl, rfl⟩
          · go_wp2_with (go_at_call 12; refine (inner_any _ _).mono ?_; rintro e w' ⟨rfl, hww⟩; obtain rfl := hww.symm)
            go_meet
            case rel => exact ⟨by rw [hI]; rfl, rfl⟩
        case rest =>
          obtain ⟨rfl, hwc⟩ := hcut
          obtain rfl := hwc.symm
          by_cases hsb : startB zs k = true
          · have e71 : (!(inner z) && !D) = false := by rw [HSB.out] at hsb; revert hsb; cases inner z <;> cases D <;> decide
            have hst : stepL zs k = (pieceT (cutL zs k (pieceE zs (k + 1))) k).map fun t => ([t], pieceE zs (k + 1)) := by unfold stepL; rw [if_neg hnb, if_pos hsb]
            clear hnb hsb HSB
            rw [e71]
            have hE1 := pieceE_ge zs (k + 1)
            have hE2 := pieceE_le (zs := zs) (j := k + 1) (by omega)
            have HP := Piece.start zs (k + 1)
            generalize pieceE zs (k + 1) = E at *
            clear e71
            go_upto_block 2 with fail
            go_cut [7] from 17 to 164 (fun s7 wc => s7 = .int .i64 (E : Int) ∧ wc = wr)
            case first =>
              go_wp2_with fail
              go_loop [7] (fun jj => ∃ j : Nat, jj = .int .i64 (j : Int) ∧ k + 1 ≤ j ∧ j ≤ zs.length ∧ Hid (Piece zs j E)) (fun jj => zs.length - (intOf jj).toNat)
              case atStart => exact ⟨k + 1, by go_num, Nat.le_refl _, by omega, HP⟩
              case round =>
                obtain ⟨j, rfl, hj1, hj2, HPj⟩ := hrel
                by_cases hjl : j < zs.length
                · have hvj := hcell.out j hjl
                  have j1 : (j : Int) < (zs.length : Int) := by omega
                  by_cases hin : inner (zs.getD j 0) = true
                  · have hn := HPj.out.next hjl hin
                    generalize zs.getD j 0 = zj at *
                    go_wp2_with (go_at_call 12; refine (inner_any _ _).mono ?_; rintro e w' ⟨rfl, hww⟩; obtain rfl := hww.symm)
                    go_round
                    case rel => exact ⟨j + 1, by go_num, by omega, by omega, hn⟩
                    case measure => simp [intOf]; omega
                  · have hEj := HPj.out.done (fun hh => hin hh.2)
                    have hin' : inner (zs.getD j 0) = false := by simpa using hin
                    generalize zs.getD j 0 = zj at *
                    go_wp2_with (go_at_call 12; refine (inner_any _ _).mono ?_; rintro e w' ⟨rfl, hww⟩; obtain rfl := hww.symm)
                    go_meet
                    case rel => exact ⟨by rw [hEj], rfl⟩
                · have j1 : ¬ (j : Int) < (zs.length : Int) := by omega
                  have j2 : decide ((j : Int) < (zs.length : Int)) = false := decide_eq_false j1
                  have hEj := HPj.out.done (fun hh => hjl hh.1)
                  go_wp2_with fail
                  go_meet
                  case rel => exact ⟨by rw [hEj], rfl⟩
            case rest =>
              obtain ⟨rfl, hwc⟩ := hcut
              obtain rfl := hwc.symm
              have hj2 := hE2
              clear HP hE2
              have hpl := cutL_len (zs := zs) (i := k) hj2
              have hpb := cutL_isB hz (i := k) hj2
              have hsrc := src_cut (hR.later (later1 wr (.cells #[] 5))) (i := k) hj2
              have hone := ones (cutL zs k E)
              have on := own_monob (own_none wr) lr.size
              have laA : Later wr (wr.alloc (.cells #[] 5)) := later1 _ _
              have q1 : (k : Int) ≤ (E : Int) := by omega
              have q2 : (E : Int) ≤ (cap : Int) := by omega
              have q3 : (E : Int) ≤ 6000 := by omega
              have sz := lr.size
              obtain ⟨pp, hpp⟩ : ∃ pp, Hid (pp = cutL zs k E) := ⟨_, rfl⟩
              rw [← hpp.out] at hpl hpb hsrc hone hst
              obtain ⟨X, hX⟩ : ∃ X, Hid (X = pp.map (Value.int .u8)) := ⟨_, rfl⟩
              have hXl : X.length = E - k := by rw [hX.out, List.length_map, hpl]
              rw [← hX.out] at hsrc hone
              clear hcell
              go_wp2_with ((at_builtin; refine wpList_append_own _ rfl _ _ 22 rfl w.heap.size 5 i5 (.int .u8 0) 1 1 Tryd.underlying22 hi5 hz50 hz51 hz52 rfl (by decide) _ _ _ rfl on ⟨g, off + k, none⟩ (E - k) (cap - k) X rfl (by rw [hXl, Nat.mul_one]) hsrc hone (by unfold maxLen; omega) (by omega) (by simp; omega) ?_; intro v3 w3 o3 g3 _; obtain ⟨a3, p3, hv3⟩ := own_form o3; rw [Nat.zero_add] at hv3; rw [hv3]))
              have o4 : w3.ownsRow w.heap.size 5 1 (.slice a3 (E - k) p3) pp.length (pp.map (Value.int .u8)) := by
                rw [hv3, Nat.zero_add, hX.out, List.nil_append] at o3
                rw [hpl]
                exact o3
              have l3 := laA.trans' g3 (fun g hg => by cases hg; exact Nat.le_refl _)
              have L3 := lr.trans l3
              have ho3 := ho.later l3
              have rd := own_rdb' o4 (by omega) hpb
              clear hsrc hone on laA o3 g3 hR l3 ho
              refine (int_any _ pp w3 rd (by omega) (by omega)).mono ?_
              rintro e w4 ⟨n, b, rfl, hib, l4⟩
              go_wp2_with fail
              refine (flo_any _ pp w4 (rd.later l4)).mono ?_
              rintro e w5 ⟨m, b', rfl, hfb, l5⟩
              have l45 := l4.trans l5
              have L5 := L3.trans l45
              have ho5 := ho3.later l45
              have o5 := later_ownb o4 l45
              have rd5 := rd.later l45
              clear l4 l5 l45 L3 ho3 o4 rd lr
              cases b
              · cases b'
                · have hwf := word_any _ pp false w5 rd5
                  have hwt := word_any _ pp true w5 rd5
                  cases wf : wordL pp false
                  · cases wt : wordL pp true
                    · have hpt : pieceT pp k = none := pieceT_no hib hfb (by rw [wf, wt]; rfl)
                      have hd := HS.out.bad hlt (hst.trans (by rw [hpt]; rfl))
                      have HF : Hid (∀ e, e = .returned (.tuple #[.slice none 0 0, .int .i64 (k : Int)]) → LexP TT BB w e w5) := fun e he => ⟨.slice none 0 0, by rw [he, HB.out, hd], by rw [HT.out, hd]; exact RdT.nil _, L5⟩
                      rw [wf] at hwf
                      rw [wt] at hwt
                      clear hd hpt hst
                      go_wp2_with (first | (go_at_call_of 16 (Value.bool false); refine hwf.mono ?_; rintro e w' ⟨rfl, hww⟩; obtain rfl := hww.symm) | (go_at_call_of 16 (Value.bool true); refine hwt.mono ?_; rintro e w' ⟨rfl, hww⟩; obtain rfl := hww.symm))
                      go_ret2
                      exact HF.out _ rfl
                    · rw [wf] at hwf
                      rw [wt] at hwt
                      as_aux_lemma =>
                        have hpt : pieceT pp k = some (1, (k : Int), 0, pp) := pieceT_word hib hfb (by rw [wf, wt]; rfl)
                        have hn := HS.out.next hlt (hst.trans (by rw [hpt]; rfl)) (by omega : k < E)
                        have hle : (ps ++ [(((1, (k : Int), 0, pp) : Tok), Value.slice a3 (E - k) p3)]).length = ps.length + 1 := by simp
                        have ho6 := ho5.later (later1 w5 (.cells #[.int .i64 1, .int .i64 (k : Int), .int .i64 0, .slice a3 (E - k) p3] 34))
                        have L6 := L5.trans (later1 w5 (.cells #[.int .i64 1, .int .i64 (k : Int), .int .i64 0, .slice a3 (E - k) p3] 34))
                        have hs6 := L6.size
                        have hr6 := ho6.row
                        clear ho5 hst hpt hib hfb
                        go_wp2_with (first | (go_at_call_of 16 (Value.bool false); refine hwf.mono ?_; rintro e w' ⟨rfl, hww⟩; obtain rfl := hww.symm) | (go_at_call_of 16 (Value.bool true); refine hwt.mono ?_; rintro e w' ⟨rfl, hww⟩; obtain rfl := hww.symm) | (at_builtin; refine wpList_append_own _ rfl _ _ 23 rfl w.heap.size 34 iT (.agg #[.int .i64 0, .int .i64 0, .int .i64 0, .slice none 0 0]) 4 48 Tryd.underlying23 hiT hzT0 hzT1 hzT2 rfl (by decide) _ _ _ rfl hr6 ⟨w5.heap.size, 0, none⟩ 1 1 [.int .i64 1, .int .i64 (k : Int), .int .i64 0, .slice a3 (E - k) p3] rfl rfl (new_tok _ _ _ _ _) (by simp [Value.oneCell']) (by unfold maxLen; omega) (by omega) hs6 ?_; intro v7 w7 o7 g7 _; obtain ⟨a7, p7, hv7⟩ := own_form o7; rw [hv7]))
                        have hpush := ho6.push (1, (k : Int), 0, pp) (.slice a3 (E - k) p3) (later_ownb o5 (later1 _ _)) (hpb) (show pp.length ≤ 6000 by omega) o7 g7
                        rw [hv7, ← hle] at hpush
                        have L7 : Later w w7 := L6.trans' g7 (fun g hg => (ho6.row.lt g hg).1)
                        go_roundw
                        case rel => exact ⟨E, ps ++ [(((1, (k : Int), 0, pp) : Tok), Value.slice a3 (E - k) p3)], a7, p7, by rw [hle], rfl, hj2, by rw [hle]; omega, hpush, L7, by rw [List.map_append]; exact hn⟩
                        case measure => simp [intOf]; omega
                  · rw [wf] at hwf
                    as_aux_lemma =>
                      have hpt : pieceT pp k = some (1, (k : Int), 0, pp) := pieceT_word hib hfb (by rw [wf]; rfl)
                      have hn := HS.out.next hlt (hst.trans (by rw [hpt]; rfl)) (by omega : k < E)
                      have hle : (ps ++ [(((1, (k : Int), 0, pp) : Tok), Value.slice a3 (E - k) p3)]).length = ps.length + 1 := by simp
                      have ho6 := ho5.later (later1 w5 (.cells #[.int .i64 1, .int .i64 (k : Int), .int .i64 0, .slice a3 (E - k) p3] 34))
                      have L6 := L5.trans (later1 w5 (.cells #[.int .i64 1, .int .i64 (k : Int), .int .i64 0, .slice a3 (E - k) p3] 34))
                      have hs6 := L6.size
                      have hr6 := ho6.row
                      clear ho5 hst hpt hib hfb
                      go_wp2_with (first | (go_at_call_of 16 (Value.bool false); refine hwf.mono ?_; rintro e w' ⟨rfl, hww⟩; obtain rfl := hww.symm) | (go_at_call_of 16 (Value.bool true); refine hwt.mono ?_; rintro e w' ⟨rfl, hww⟩; obtain rfl := hww.symm) | (at_builtin; refine wpList_append_own _ rfl _ _ 23 rfl w.heap.size 34 iT (.agg #[.int .i64 0, .int .i64 0, .int .i64 0, .slice none 0 0]) 4 48 Tryd.underlying23 hiT hzT0 hzT1 hzT2 rfl (by decide) _ _ _ rfl hr6 ⟨w5.heap.size, 0, none⟩ 1 1 [.int .i64 1, .int .i64 (k : Int), .int .i64 0, .slice a3 (E - k) p3] rfl rfl (new_tok _ _ _ _ _) (by simp [Value.oneCell']) (by unfold maxLen; omega) (by omega) hs6 ?_; intro v7 w7 o7 g7 _; obtain ⟨a7, p7, hv7⟩ := own_form o7; rw [hv7]))
                      have hpush := ho6.push (1, (k : Int), 0, pp) (.slice a3 (E - k) p3) (later_ownb o5 (later1 _ _)) (hpb) (show pp.length ≤ 6000 by omega) o7 g7
                      rw [hv7, ← hle] at hpush
                      have L7 : Later w w7 := L6.trans' g7 (fun g hg => (ho6.row.lt g hg).1)
                      go_roundw
                      case rel => exact ⟨E, ps ++ [(((1, (k : Int), 0, pp) : Tok), Value.slice a3 (E - k) p3)], a7, p7, by rw [hle], rfl, hj2, by rw [hle]; omega, hpush, L7, by rw [List.map_append]; exact hn⟩
                      case measure => simp [intOf]; omega
                · as_aux_lemma =>
                    have hpt : pieceT pp k = some (3, (k : Int), m, []) := pieceT_flo hib hfb
                    have hn := HS.out.next hlt (hst.trans (by rw [hpt]; rfl)) (by omega : k < E)
                    have hle : (ps ++ [(((3, (k : Int), m, []) : Tok), Value.slice none 0 0)]).length = ps.length + 1 := by simp
                    have ho6 := ho5.later (later1 w5 (.cells #[.int .i64 3, .int .i64 (k : Int), .int .i64 m, .slice none 0 0] 34))
                    have L6 := L5.trans (later1 w5 (.cells #[.int .i64 3, .int .i64 (k : Int), .int .i64 m, .slice none 0 0] 34))
                    have hs6 := L6.size
                    have hr6 := ho6.row
                    clear ho5 hst hpt hib hfb
                    go_wp2_with (at_builtin; refine wpList_append_own _ rfl _ _ 23 rfl w.heap.size 34 iT (.agg #[.int .i64 0, .int .i64 0, .int .i64 0, .slice none 0 0]) 4 48 Tryd.underlying23 hiT hzT0 hzT1 hzT2 rfl (by decide) _ _ _ rfl hr6 ⟨w5.heap.size, 0, none⟩ 1 1 [.int .i64 3, .int .i64 (k : Int), .int .i64 m, .slice none 0 0] rfl rfl (new_tok _ _ _ _ _) (by simp [Value.oneCell']) (by unfold maxLen; omega) (by omega) hs6 ?_; intro v7 w7 o7 g7 _; obtain ⟨a7, p7, hv7⟩ := own_form o7; rw [hv7])
                    have hpush := ho6.push (3, (k : Int), m, []) (.slice none 0 0) (World.ownsRow_nil _ _ _ _) (fun j => ⟨by simp, by simp⟩) (by simp) o7 g7
                    rw [hv7, ← hle] at hpush
                    have L7 : Later w w7 := L6.trans' g7 (fun g hg => (ho6.row.lt g hg).1)
                    go_roundw
                    case rel => exact ⟨E, ps ++ [(((3, (k : Int), m, []) : Tok), Value.slice none 0 0)], a7, p7, by rw [hle], rfl, hj2, by rw [hle]; omega, hpush, L7, by rw [List.map_append]; exact hn⟩
                    case measure => simp [intOf]; omega
              · as_aux_lemma =>
                  have hpt : pieceT pp k = some (2, (k : Int), n, []) := pieceT_int hib
                  have hn := HS.out.next hlt (hst.trans (by rw [hpt]; rfl)) (by omega : k < E)
                  have hle : (ps ++ [(((2, (k : Int), n, []) : Tok), Value.slice none 0 0)]).length = ps.length + 1 := by simp
                  have ho6 := ho5.later (later1 w5 (.cells #[.int .i64 2, .int .i64 (k : Int), .int .i64 n, .slice none 0 0] 34))
                  have L6 := L5.trans (later1 w5 (.cells #[.int .i64 2, .int .i64 (k : Int), .int .i64 n, .slice none 0 0] 34))
                  have hs6 := L6.size
                  have hr6 := ho6.row
                  clear ho5 hst hpt hib hfb
                  go_wp2_with (at_builtin; refine wpList_append_own _ rfl _ _ 23 rfl w.heap.size 34 iT (.agg #[.int .i64 0, .int .i64 0, .int .i64 0, .slice none 0 0]) 4 48 Tryd.underlying23 hiT hzT0 hzT1 hzT2 rfl (by decide) _ _ _ rfl hr6 ⟨w5.heap.size, 0, none⟩ 1 1 [.int .i64 2, .int .i64 (k : Int), .int .i64 n, .slice none 0 0] rfl rfl (new_tok _ _ _ _ _) (by simp [Value.oneCell']) (by unfold maxLen; omega) (by omega) hs6 ?_; intro v7 w7 o7 g7 _; obtain ⟨a7, p7, hv7⟩ := own_form o7; rw [hv7])
                  have hpush := ho6.push (2, (k : Int), n, []) (.slice none 0 0) (World.ownsRow_nil _ _ _ _) (fun j => ⟨by simp, by simp⟩) (by simp) o7 g7
                  rw [hv7, ← hle] at hpush
                  have L7 : Later w w7 := L6.trans' g7 (fun g hg => (ho6.row.lt g hg).1)
                  go_roundw
                  case rel => exact ⟨E, ps ++ [(((2, (k : Int), n, []) : Tok), Value.slice none 0 0)], a7, p7, by rw [hle], rfl, hj2, by rw [hle]; omega, hpush, L7, by rw [List.map_append]; exact hn⟩
                  case measure => simp [intOf]; omega
          · have e71 : (!(inner z) && !D) = true := by rw [HSB.out] at hsb; revert hsb; cases inner z <;> cases D <;> decide
            have HSE : Hid (signE zs k = if (z == 61) && decide (k + 1 < zs.length) && (z1 == 61) then k + 2 else k + 1) := by show _ = _; unfold signE; rw [HZK.out, HZ1.out]
            cases hsg : sign z
            · have hst : stepL zs k = none := by unfold stepL; rw [if_neg hnb, if_neg hsb, HZK.out, if_neg (by rw [hsg]; exact Bool.false_ne_true)]
              have hd := HS.out.bad hlt hst
              have HF : Hid (∀ e, e = .returned (.tuple #[.slice none 0 0, .int .i64 (k : Int)]) → LexP TT BB w e wr) := fun e he => ⟨.slice none 0 0, by rw [he, HB.out, hd], by rw [HT.out, hd]; exact RdT.nil _, lr⟩
              rw [e71]
              clear hd hst hnb hsb HSE HSB e71 hcell
              go_wp2_with (go_at_call 13; refine (sign_any _ _).mono ?_; rintro e w' ⟨rfl, hww⟩; obtain rfl := hww.symm)
              go_ret2
              exact HF.out _ rfl
            · by_cases c61 : z = 61
              · subst c61
                by_cases h1 : k + 1 < zs.length
                · have hv1' := hv1.out h1
                  have i2 : (k : Int) + 1 < (zs.length : Int) := by omega
                  by_cases d61 : z1 = 61
                  · subst d61
                    as_aux_lemma =>
                      have hjE : signE zs k = k + 2 := by rw [HSE.out, decide_eq_true h1]; rfl
                      have hm2 : k + 2 ≤ zs.length := by omega
                      have hst : stepL zs k = some ([(4, (k : Int), 0, cutL zs k (k + 2))], k + 2) := by unfold stepL; rw [if_neg hnb, if_neg hsb, HZK.out, if_pos hsg, hjE]
                      have hn0 := HS.out.next hlt hst (by omega : k < k + 2)
                      have hpl := cutL_len (zs := zs) (i := k) hm2
                      have hpb := cutL_isB hz (i := k) hm2
                      have hsrc := src_cut (hR.later (later1 wr (.cells #[] 5))) (i := k) hm2
                      have hone := ones (cutL zs k (k + 2))
                      have on := own_monob (own_none wr) lr.size
                      have laA : Later wr (wr.alloc (.cells #[] 5)) := later1 _ _
                      have q2 : (k : Int) + 2 ≤ (cap : Int) := by omega
                      have q3 : (k : Int) + 2 ≤ 6000 := by omega
                      have q4 : (k : Int) + 1 ≤ (cap : Int) := by omega
                      have q5 : (k : Int) + 1 + 1 ≤ 6001 := by omega
                      have sz := lr.size
                      obtain ⟨pp, hpp⟩ : ∃ pp, Hid (pp = cutL zs k (k + 2)) := ⟨_, rfl⟩
                      rw [← hpp.out] at hpl hpb hsrc hone hn0
                      have hpm : pp.length = 2 := by omega
                      obtain ⟨X, hX⟩ : ∃ X, Hid (X = pp.map (Value.int .u8)) := ⟨_, rfl⟩
                      have hXl : X.length = 2 := by rw [hX.out, List.length_map, hpm]
                      rw [← hX.out] at hsrc hone
                      have HO : Hid (∀ v3 w3, World.ownsRow w3 w.heap.size 5 1 v3 (0 + 2) ([] ++ X) → World.ownsRow w3 w.heap.size 5 1 v3 pp.length (pp.map (Value.int .u8))) := fun v3 w3 h3 => by
                        rw [Nat.zero_add, List.nil_append, hX.out] at h3
                        rw [hpm]
                        exact h3
                      have HPB : Hid (∀ j, isB (pp.getD j 0)) := hpb
                      have HN : Hid (SoFar zs (k + 2) (ps.map (·.1) ++ [((4, (k : Int), 0, pp) : Tok)])) := hn0
                      clear hcell hst hjE hnb hsb hR hpl hpb hn0 HSB
                      rw [e71]
                      go_wp2_with (first | (go_at_call 13; refine (sign_any _ _).mono ?_; rintro e w' ⟨rfl, hww⟩; obtain rfl := hww.symm) | (have _g := o3; at_builtin; refine wpList_append_own _ rfl _ _ 23 rfl w.heap.size 34 iT (.agg #[.int .i64 0, .int .i64 0, .int .i64 0, .slice none 0 0]) 4 48 Tryd.underlying23 hiT hzT0 hzT1 hzT2 rfl (by decide) _ _ _ rfl hr6 ⟨w3.heap.size, 0, none⟩ 1 1 [.int .i64 4, .int .i64 (k : Int), .int .i64 0, .slice a3 2 p3] rfl rfl (new_tok _ _ _ _ _) (by simp [Value.oneCell']) (by unfold maxLen; omega) (by omega) hs6 ?_; intro v7 w7 o7 g7 _; obtain ⟨a7, p7, hv7⟩ := own_form o7; rw [hv7]) | (at_builtin; refine wpList_append_own _ rfl _ _ 22 rfl w.heap.size 5 i5 (.int .u8 0) 1 1 Tryd.underlying22 hi5 hz50 hz51 hz52 rfl (by decide) _ _ _ rfl on ⟨g, off + k, none⟩ _ _ X rfl (by rw [hXl]; omega) hsrc hone (by unfold maxLen; omega) (by omega) (by simp; omega) ?_; intro v3 w3 o3 g3 _; obtain ⟨a3, p3, hv0⟩ := own_form o3; have hv3 := hv0.trans (slice_len a3 p3 (n := 2) (by omega)); rw [hv3]; have l3 := laA.trans' g3 (fun g hg => by cases hg; exact Nat.le_refl _); have o4 := HO.out v3 w3 (own_len o3 (by omega)); rw [hv3] at o4; have ho6 := (ho.later l3).later (later1 w3 (.cells #[.int .i64 4, .int .i64 (k : Int), .int .i64 0, .slice a3 2 p3] 34)); have L6 := (lr.trans l3).trans (later1 w3 (.cells #[.int .i64 4, .int .i64 (k : Int), .int .i64 0, .slice a3 2 p3] 34)); have hs6 := L6.size; have hr6 := ho6.row))
                      have hle : (ps ++ [(((4, (k : Int), 0, pp) : Tok), Value.slice a3 2 p3)]).length = ps.length + 1 := by simp
                      have hpush := ho6.push (4, (k : Int), 0, pp) (Value.slice a3 2 p3) (later_ownb o4 (later1 _ _)) HPB.out (show pp.length ≤ 6000 by omega) o7 g7
                      rw [hv7, ← hle] at hpush
                      have L7 : Later w w7 := L6.trans' g7 (fun g hg => (ho6.row.lt g hg).1)
                      go_roundw
                      case rel => exact ⟨k + 2, ps ++ [(((4, (k : Int), 0, pp) : Tok), Value.slice a3 2 p3)], a7, p7, by rw [hle], by go_num, hm2, by rw [hle]; omega, hpush, L7, by rw [List.map_append]; exact HN.out⟩
                      case measure => simp [intOf]; omega
                  · have b61 : (z1 == 61) = false := by rw [beq_eq_false_iff_ne]; exact d61
                    as_aux_lemma =>
                      have hjE : signE zs k = k + 1 := by rw [HSE.out, decide_eq_true h1, b61]; rfl
                      have hm2 : k + 1 ≤ zs.length := by omega
                      have hst : stepL zs k = some ([(4, (k : Int), 0, cutL zs k (k + 1))], k + 1) := by unfold stepL; rw [if_neg hnb, if_neg hsb, HZK.out, if_pos hsg, hjE]
                      have hn0 := HS.out.next hlt hst (by omega : k < k + 1)
                      have hpl := cutL_len (zs := zs) (i := k) hm2
                      have hpb := cutL_isB hz (i := k) hm2
                      have hsrc := src_cut (hR.later (later1 wr (.cells #[] 5))) (i := k) hm2
                      have hone := ones (cutL zs k (k + 1))
                      have on := own_monob (own_none wr) lr.size
                      have laA : Later wr (wr.alloc (.cells #[] 5)) := later1 _ _
                      have q2 : (k : Int) + 1 ≤ (cap : Int) := by omega
                      have q3 : (k : Int) + 1 ≤ 6000 := by omega
                      have q4 : (k : Int) + 1 ≤ (cap : Int) := by omega
                      have q5 : (k : Int) + 1 + 1 ≤ 6001 := by omega
                      have sz := lr.size
                      obtain ⟨pp, hpp⟩ : ∃ pp, Hid (pp = cutL zs k (k + 1)) := ⟨_, rfl⟩
                      rw [← hpp.out] at hpl hpb hsrc hone hn0
                      have hpm : pp.length = 1 := by omega
                      obtain ⟨X, hX⟩ : ∃ X, Hid (X = pp.map (Value.int .u8)) := ⟨_, rfl⟩
                      have hXl : X.length = 1 := by rw [hX.out, List.length_map, hpm]
                      rw [← hX.out] at hsrc hone
                      have HO : Hid (∀ v3 w3, World.ownsRow w3 w.heap.size 5 1 v3 (0 + 1) ([] ++ X) → World.ownsRow w3 w.heap.size 5 1 v3 pp.length (pp.map (Value.int .u8))) := fun v3 w3 h3 => by
                        rw [Nat.zero_add, List.nil_append, hX.out] at h3
                        rw [hpm]
                        exact h3
                      have HPB : Hid (∀ j, isB (pp.getD j 0)) := hpb
                      have HN : Hid (SoFar zs (k + 1) (ps.map (·.1) ++ [((4, (k : Int), 0, pp) : Tok)])) := hn0
                      clear hcell hst hjE hnb hsb hR hpl hpb hn0 HSB
                      rw [e71]
                      go_wp2_with (first | (go_at_call 13; refine (sign_any _ _).mono ?_; rintro e w' ⟨rfl, hww⟩; obtain rfl := hww.symm) | (have _g := o3; at_builtin; refine wpList_append_own _ rfl _ _ 23 rfl w.heap.size 34 iT (.agg #[.int .i64 0, .int .i64 0, .int .i64 0, .slice none 0 0]) 4 48 Tryd.underlying23 hiT hzT0 hzT1 hzT2 rfl (by decide) _ _ _ rfl hr6 ⟨w3.heap.size, 0, none⟩ 1 1 [.int .i64 4, .int .i64 (k : Int), .int .i64 0, .slice a3 1 p3] rfl rfl (new_tok _ _ _ _ _) (by simp [Value.oneCell']) (by unfold maxLen; omega) (by omega) hs6 ?_; intro v7 w7 o7 g7 _; obtain ⟨a7, p7, hv7⟩ := own_form o7; rw [hv7]) | (at_builtin; refine wpList_append_own _ rfl _ _ 22 rfl w.heap.size 5 i5 (.int .u8 0) 1 1 Tryd.underlying22 hi5 hz50 hz51 hz52 rfl (by decide) _ _ _ rfl on ⟨g, off + k, none⟩ 1 (cap - k) X rfl (by rw [hXl]) hsrc hone (by unfold maxLen; omega) (by omega) (by simp; omega) ?_; intro v3 w3 o3 g3 _; obtain ⟨a3, p3, hv3⟩ := own_form o3; rw [Nat.zero_add] at hv3; rw [hv3]; have l3 := laA.trans' g3 (fun g hg => by cases hg; exact Nat.le_refl _); have o4 := HO.out v3 w3 o3; rw [hv3] at o4; have ho6 := (ho.later l3).later (later1 w3 (.cells #[.int .i64 4, .int .i64 (k : Int), .int .i64 0, .slice a3 1 p3] 34)); have L6 := (lr.trans l3).trans (later1 w3 (.cells #[.int .i64 4, .int .i64 (k : Int), .int .i64 0, .slice a3 1 p3] 34)); have hs6 := L6.size; have hr6 := ho6.row))
                      have hle : (ps ++ [(((4, (k : Int), 0, pp) : Tok), Value.slice a3 1 p3)]).length = ps.length + 1 := by simp
                      have hpush := ho6.push (4, (k : Int), 0, pp) (Value.slice a3 1 p3) (later_ownb o4 (later1 _ _)) HPB.out (show pp.length ≤ 6000 by omega) o7 g7
                      rw [hv7, ← hle] at hpush
                      have L7 : Later w w7 := L6.trans' g7 (fun g hg => (ho6.row.lt g hg).1)
                      go_roundw
                      case rel => exact ⟨k + 1, ps ++ [(((4, (k : Int), 0, pp) : Tok), Value.slice a3 1 p3)], a7, p7, by rw [hle], by go_num, hm2, by rw [hle]; omega, hpush, L7, by rw [List.map_append]; exact HN.out⟩
                      case measure => simp [intOf]; omega
                · have i2 : decide ((k : Int) + 1 < (zs.length : Int)) = false := by rw [decide_eq_false_iff_not]; omega
                  as_aux_lemma =>
                    have hjE : signE zs k = k + 1 := by rw [HSE.out, decide_eq_false h1]; rfl
                    have hm2 : k + 1 ≤ zs.length := by omega
                    have hst : stepL zs k = some ([(4, (k : Int), 0, cutL zs k (k + 1))], k + 1) := by unfold stepL; rw [if_neg hnb, if_neg hsb, HZK.out, if_pos hsg, hjE]
                    have hn0 := HS.out.next hlt hst (by omega : k < k + 1)
                    have hpl := cutL_len (zs := zs) (i := k) hm2
                    have hpb := cutL_isB hz (i := k) hm2
                    have hsrc := src_cut (hR.later (later1 wr (.cells #[] 5))) (i := k) hm2
                    have hone := ones (cutL zs k (k + 1))
                    have on := own_monob (own_none wr) lr.size
                    have laA : Later wr (wr.alloc (.cells #[] 5)) := later1 _ _
                    have q2 : (k : Int) + 1 ≤ (cap : Int) := by omega
                    have q3 : (k : Int) + 1 ≤ 6000 := by omega
                    have q4 : (k : Int) + 1 ≤ (cap : Int) := by omega
                    have q5 : (k : Int) + 1 + 1 ≤ 6001 := by omega
                    have sz := lr.size
                    obtain ⟨pp, hpp⟩ : ∃ pp, Hid (pp = cutL zs k (k + 1)) := ⟨_, rfl⟩
                    rw [← hpp.out] at hpl hpb hsrc hone hn0
                    have hpm : pp.length = 1 := by omega
                    obtain ⟨X, hX⟩ : ∃ X, Hid (X = pp.map (Value.int .u8)) := ⟨_, rfl⟩
                    have hXl : X.length = 1 := by rw [hX.out, List.length_map, hpm]
                    rw [← hX.out] at hsrc hone
                    have HO : Hid (∀ v3 w3, World.ownsRow w3 w.heap.size 5 1 v3 (0 + 1) ([] ++ X) → World.ownsRow w3 w.heap.size 5 1 v3 pp.length (pp.map (Value.int .u8))) := fun v3 w3 h3 => by
                      rw [Nat.zero_add, List.nil_append, hX.out] at h3
                      rw [hpm]
                      exact h3
                    have HPB : Hid (∀ j, isB (pp.getD j 0)) := hpb
                    have HN : Hid (SoFar zs (k + 1) (ps.map (·.1) ++ [((4, (k : Int), 0, pp) : Tok)])) := hn0
                    clear hcell hst hjE hnb hsb hR hpl hpb hn0 HSB
                    rw [e71]
                    go_wp2_with (first | (go_at_call 13; refine (sign_any _ _).mono ?_; rintro e w' ⟨rfl, hww⟩; obtain rfl := hww.symm) | (have _g := o3; at_builtin; refine wpList_append_own _ rfl _ _ 23 rfl w.heap.size 34 iT (.agg #[.int .i64 0, .int .i64 0, .int .i64 0, .slice none 0 0]) 4 48 Tryd.underlying23 hiT hzT0 hzT1 hzT2 rfl (by decide) _ _ _ rfl hr6 ⟨w3.heap.size, 0, none⟩ 1 1 [.int .i64 4, .int .i64 (k : Int), .int .i64 0, .slice a3 1 p3] rfl rfl (new_tok _ _ _ _ _) (by simp [Value.oneCell']) (by unfold maxLen; omega) (by omega) hs6 ?_; intro v7 w7 o7 g7 _; obtain ⟨a7, p7, hv7⟩ := own_form o7; rw [hv7]) | (at_builtin; refine wpList_append_own _ rfl _ _ 22 rfl w.heap.size 5 i5 (.int .u8 0) 1 1 Tryd.underlying22 hi5 hz50 hz51 hz52 rfl (by decide) _ _ _ rfl on ⟨g, off + k, none⟩ 1 (cap - k) X rfl (by rw [hXl]) hsrc hone (by unfold maxLen; omega) (by omega) (by simp; omega) ?_; intro v3 w3 o3 g3 _; obtain ⟨a3, p3, hv3⟩ := own_form o3; rw [Nat.zero_add] at hv3; rw [hv3]; have l3 := laA.trans' g3 (fun g hg => by cases hg; exact Nat.le_refl _); have o4 := HO.out v3 w3 o3; rw [hv3] at o4; have ho6 := (ho.later l3).later (later1 w3 (.cells #[.int .i64 4, .int .i64 (k : Int), .int .i64 0, .slice a3 1 p3] 34)); have L6 := (lr.trans l3).trans (later1 w3 (.cells #[.int .i64 4, .int .i64 (k : Int), .int .i64 0, .slice a3 1 p3] 34)); have hs6 := L6.size; have hr6 := ho6.row))
                    have hle : (ps ++ [(((4, (k : Int), 0, pp) : Tok), Value.slice a3 1 p3)]).length = ps.length + 1 := by simp
                    have hpush := ho6.push (4, (k : Int), 0, pp) (Value.slice a3 1 p3) (later_ownb o4 (later1 _ _)) HPB.out (show pp.length ≤ 6000 by omega) o7 g7
                    rw [hv7, ← hle] at hpush
                    have L7 : Later w w7 := L6.trans' g7 (fun g hg => (ho6.row.lt g hg).1)
                    go_roundw
                    case rel => exact ⟨k + 1, ps ++ [(((4, (k : Int), 0, pp) : Tok), Value.slice a3 1 p3)], a7, p7, by rw [hle], by go_num, hm2, by rw [hle]; omega, hpush, L7, by rw [List.map_append]; exact HN.out⟩
                    case measure => simp [intOf]; omega
              · have b61 : (z == 61) = false := by rw [beq_eq_false_iff_ne]; exact c61
                as_aux_lemma =>
                  have hjE : signE zs k = k + 1 := by rw [HSE.out, b61]; rfl
                  have hm2 : k + 1 ≤ zs.length := by omega
                  have hst : stepL zs k = some ([(4, (k : Int), 0, cutL zs k (k + 1))], k + 1) := by unfold stepL; rw [if_neg hnb, if_neg hsb, HZK.out, if_pos hsg, hjE]
                  have hn0 := HS.out.next hlt hst (by omega : k < k + 1)
                  have hpl := cutL_len (zs := zs) (i := k) hm2
                  have hpb := cutL_isB hz (i := k) hm2
                  have hsrc := src_cut (hR.later (later1 wr (.cells #[] 5))) (i := k) hm2
                  have hone := ones (cutL zs k (k + 1))
                  have on := own_monob (own_none wr) lr.size
                  have laA : Later wr (wr.alloc (.cells #[] 5)) := later1 _ _
                  have q2 : (k : Int) + 1 ≤ (cap : Int) := by omega
                  have q3 : (k : Int) + 1 ≤ 6000 := by omega
                  have q4 : (k : Int) + 1 ≤ (cap : Int) := by omega
                  have q5 : (k : Int) + 1 + 1 ≤ 6001 := by omega
                  have sz := lr.size
                  obtain ⟨pp, hpp⟩ : ∃ pp, Hid (pp = cutL zs k (k + 1)) := ⟨_, rfl⟩
                  rw [← hpp.out] at hpl hpb hsrc hone hn0
                  have hpm : pp.length = 1 := by omega
                  obtain ⟨X, hX⟩ : ∃ X, Hid (X = pp.map (Value.int .u8)) := ⟨_, rfl⟩
                  have hXl : X.length = 1 := by rw [hX.out, List.length_map, hpm]
                  rw [← hX.out] at hsrc hone
                  have HO : Hid (∀ v3 w3, World.ownsRow w3 w.heap.size 5 1 v3 (0 + 1) ([] ++ X) → World.ownsRow w3 w.heap.size 5 1 v3 pp.length (pp.map (Value.int .u8))) := fun v3 w3 h3 => by
                    rw [Nat.zero_add, List.nil_append, hX.out] at h3
                    rw [hpm]
                    exact h3
                  have HPB : Hid (∀ j, isB (pp.getD j 0)) := hpb
                  have HN : Hid (SoFar zs (k + 1) (ps.map (·.1) ++ [((4, (k : Int), 0, pp) : Tok)])) := hn0
                  clear hcell hst hjE hnb hsb hR hpl hpb hn0 HSB
                  rw [e71]
                  go_wp2_with (first | (go_at_call 13; refine (sign_any _ _).mono ?_; rintro e w' ⟨rfl, hww⟩; obtain rfl := hww.symm) | (have _g := o3; at_builtin; refine wpList_append_own _ rfl _ _ 23 rfl w.heap.size 34 iT (.agg #[.int .i64 0, .int .i64 0, .int .i64 0, .slice none 0 0]) 4 48 Tryd.underlying23 hiT hzT0 hzT1 hzT2 rfl (by decide) _ _ _ rfl hr6 ⟨w3.heap.size, 0, none⟩ 1 1 [.int .i64 4, .int .i64 (k : Int), .int .i64 0, .slice a3 1 p3] rfl rfl (new_tok _ _ _ _ _) (by simp [Value.oneCell']) (by unfold maxLen; omega) (by omega) hs6 ?_; intro v7 w7 o7 g7 _; obtain ⟨a7, p7, hv7⟩ := own_form o7; rw [hv7]) | (at_builtin; refine wpList_append_own _ rfl _ _ 22 rfl w.heap.size 5 i5 (.int .u8 0) 1 1 Tryd.underlying22 hi5 hz50 hz51 hz52 rfl (by decide) _ _ _ rfl on ⟨g, off + k, none⟩ 1 (cap - k) X rfl (by rw [hXl]) hsrc hone (by unfold maxLen; omega) (by omega) (by simp; omega) ?_; intro v3 w3 o3 g3 _; obtain ⟨a3, p3, hv3⟩ := own_form o3; rw [Nat.zero_add] at hv3; rw [hv3]; have l3 := laA.trans' g3 (fun g hg => by cases hg; exact Nat.le_refl _); have o4 := HO.out v3 w3 o3; rw [hv3] at o4; have ho6 := (ho.later l3).later (later1 w3 (.cells #[.int .i64 4, .int .i64 (k : Int), .int .i64 0, .slice a3 1 p3] 34)); have L6 := (lr.trans l3).trans (later1 w3 (.cells #[.int .i64 4, .int .i64 (k : Int), .int .i64 0, .slice a3 1 p3] 34)); have hs6 := L6.size; have hr6 := ho6.row))
                  have hle : (ps ++ [(((4, (k : Int), 0, pp) : Tok), Value.slice a3 1 p3)]).length = ps.length + 1 := by simp
                  have hpush := ho6.push (4, (k : Int), 0, pp) (Value.slice a3 1 p3) (later_ownb o4 (later1 _ _)) HPB.out (show pp.length ≤ 6000 by omega) o7 g7
                  rw [hv7, ← hle] at hpush
                  have L7 : Later w w7 := L6.trans' g7 (fun g hg => (ho6.row.lt g hg).1)
                  go_roundw
                  case rel => exact ⟨k + 1, ps ++ [(((4, (k : Int), 0, pp) : Tok), Value.slice a3 1 p3)], a7, p7, by rw [hle], by go_num, hm2, by rw [hle]; omega, hpush, L7, by rw [List.map_append]; exact HN.out⟩
                  case measure => simp [intOf]; omega
    · have i1 : ¬ (k : Int) < (zs.length : Int) := by omega
      have i2 : decide ((k : Int) < (zs.length : Int)) = false := decide_eq_false i1
      have hd := HS.out.done (by omega)
      have eT : TT = ps.map (·.1) := by rw [HT.out, hd]
      have eB : BB = -1 := by rw [HB.out, hd]
      have HF : Hid (∀ e, e = .returned (.tuple #[.slice ao ps.length po, .int .i64 (-1)]) → LexP TT BB w e wr) := fun e he => ⟨.slice ao ps.length po, by rw [he, eB], by rw [eT]; exact ho.rd (by omega), lr⟩
      clear eT eB hd
      go_wp2_with fail
      go_ret2
      exact HF.out _ rfl

end Go.Proofs.YtleakieppapjmaaDoor.KL
