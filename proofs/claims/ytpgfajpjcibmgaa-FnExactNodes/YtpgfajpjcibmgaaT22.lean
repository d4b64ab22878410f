/- Blocks, parameters and structs, by the model. -/
import Derived.Test.YtpgfajpjcibmgaaT21
import Derived.Test.YtpgfajpjcibmgaaT15
namespace Go.Proofs.Ytpgfajpjcibmgaa
open Go.RowKit

set_option maxHeartbeats 4000000 in
theorem sblock_all (N : Nat) : ∀ (v : Value) (l : List St) (K : Nat) (s p d : Int) (w0 w : World), St.szs l ≤ N → (St.goods l) → RdL w0 8 v (St.dats l) → Later w0 w → w0.heap.size ≤ K → Cn K w p → 0 ≤ p → p ≤ 400 → 0 ≤ d → d ≤ 31 →
    Calls Try.prog 24 #[v, .int .i64 s, .int .i64 d, .pointer (some ⟨K, 0, none⟩)] w fun e w' => CnP K w (St.runs s d p l) e w' := by
  induction N using Nat.strongRecOn with
  | _ N IH =>
  intro v l K s p d w0 w hN hg h hL hK hC hp0 hp1 hd0 hd1
  obtain ⟨a, cap, rfl, hl⟩ := St.slice h
  go_enter Try.func24, Try.ntmps24
  go_wp2_with fail
  go_loopw [9] (fun i wr => ∃ (j : Nat) (q : Int), i = .int .i64 (j : Int) ∧ j ≤ l.length ∧ OnlyK K w wr ∧ Cn K wr q ∧ 0 ≤ q ∧ q ≤ 400 ∧ Hid (St.soFar s d p l j q)) (fun i _ => l.length - (intOf i).toNat)
  case atStart => exact ⟨0, p, rfl, Nat.zero_le _, OnlyK.refl _ _, hC, hp0, hp1, St.soFar_start _ _ _ _⟩
  case round =>
    obtain ⟨j, q, rfl, hj, oR, hCr, hq0, hq1, HS⟩ := hrel
    by_cases hlt : j < l.length
    · obtain ⟨g, off, v0, v1, v2, v3, rfl, hgs, c0, c1, c2, c3, c4, c5, c6, c7, r0, r1, r2, r3⟩ := St.elem h j hlt
      have i1 : (j : Int) < (l.length : Int) := by omega
      have hLr := later_only hL oR hK
      have c0 : wr.cell? ⟨g, off + j * 8, none⟩ = some (.int .i64 l[j].kind) := by rw [Below.cell hLr (p := ⟨g, off + j * 8, none⟩) hgs]; exact c0
      have c1 : wr.cell? ⟨g, off + j * 8 + 1, none⟩ = some (.int .i64 l[j].n) := by rw [Below.cell hLr (p := ⟨g, off + j * 8 + 1, none⟩) hgs]; exact c1
      have c2 : wr.cell? ⟨g, off + j * 8 + 2, none⟩ = some (.int .i64 l[j].tk) := by rw [Below.cell hLr (p := ⟨g, off + j * 8 + 2, none⟩) hgs]; exact c2
      have c3 : wr.cell? ⟨g, off + j * 8 + 3, none⟩ = some (.int .i64 l[j].tn) := by rw [Below.cell hLr (p := ⟨g, off + j * 8 + 3, none⟩) hgs]; exact c3
      have c4 : wr.cell? ⟨g, off + j * 8 + 4, none⟩ = some (v0) := by rw [Below.cell hLr (p := ⟨g, off + j * 8 + 4, none⟩) hgs]; exact c4
      have c5 : wr.cell? ⟨g, off + j * 8 + 5, none⟩ = some (v1) := by rw [Below.cell hLr (p := ⟨g, off + j * 8 + 5, none⟩) hgs]; exact c5
      have c6 : wr.cell? ⟨g, off + j * 8 + 6, none⟩ = some (v2) := by rw [Below.cell hLr (p := ⟨g, off + j * 8 + 6, none⟩) hgs]; exact c6
      have c7 : wr.cell? ⟨g, off + j * 8 + 7, none⟩ = some (v3) := by rw [Below.cell hLr (p := ⟨g, off + j * 8 + 7, none⟩) hgs]; exact c7
      have hE := sstmt_one l[j] v0 v1 v2 v3 K s q d w0 wr (St.goods_at l j hlt hg) r0 r1 r2 r3 hLr hK hCr hq0 hq1 hd0 hd1 (fun v' l' p' d' w' g' h' s' L' S' a b c e => IH (St.szs l') (by have := St.sz_at l j hlt; omega) v' l' K s p' d' w0 w' (Nat.le_refl _) g' h' L' hK S' a b c e)
      have HN : Hid (∀ l', St.run s d q l[j] = some l' → St.soFar s d p l (j + 1) l' ∧ 0 ≤ l' ∧ l' < q) := fun l' hr => ⟨St.soFar_next HS.out hlt hr, St.run_le s _ _ _ _ hr⟩
      have HB : Hid (St.run s d q l[j] = none → St.runs s d p l = none) := fun hr => St.soFar_bad HS.out hlt hr
      clear r0 r1 r2 r3 h HS
      generalize St.run s d q l[j] = R at *
      generalize l[j].kind = z_kind at *
      generalize l[j].n = z_n at *
      generalize l[j].tk = z_tk at *
      generalize l[j].tn = z_tn at *
      go_wp2_with fail
      refine hE.mono ?_
      rintro e w1 ⟨o1, hm⟩
      have o := oR.trans o1
      cases R with
      | none =>
        obtain ⟨rfl, p', hC1⟩ := hm
        have hb : Hid (St.runs s d p l = none) := HB.out rfl
        go_wp2_with fail
        go_ret
        exact CnP.no o hb.out rfl hC1
      | some l' =>
        obtain ⟨rfl, hC1⟩ := hm
        obtain ⟨n1, n2, n3⟩ := HN.out l' rfl
        have HN1 : Hid (St.soFar s d p l (j + 1) l') := n1
        clear n1 HN HB hE
        go_wp2_with fail
        go_roundw
        case rel => exact ⟨j + 1, l', by go_num, by omega, o, hC1, by omega, by omega, HN1⟩
        case measure => simp [intOf]; omega
    · have i1 : ¬ (j : Int) < (l.length : Int) := by omega
      have i2 : decide ((j : Int) < (l.length : Int)) = false := decide_eq_false i1
      have hjj : j = l.length := by omega
      subst hjj
      have HD : Hid (St.runs s d p l = some q) := St.soFar_done HS.out
      clear h HS
      go_wp2_with fail
      go_ret
      exact CnP.yes oR HD.out rfl hCr

end Go.Proofs.Ytpgfajpjcibmgaa
