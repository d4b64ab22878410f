/- By the model: which blocks are reached without one. -/
import Derived.Test.YthammngddmkhhaaZ10
namespace Go.Proofs.Ythammngddmkhhaa
open Go.RowKit

def ReachP (x : Fc) (d : Int) (n : Nat) (w : World) (e : Ending) (w' : World) : Prop := ∃ g sn, e = .returned (.slice (some ⟨g, 0, none⟩) n n) ∧ Later w w' ∧ RB w' g sn ∧ RT w' g 4 ∧ w.heap.size ≤ g ∧ sn.length = n ∧ ∀ i, sg sn i = true ↔ (i < n ∧ Rc x.E (fun y => (y : Int) = d) i)
theorem own_shape2 {w : World} {base : Nat} {e : TypeId} {size : Nat} {v : Value} {n : Nat} {xs : List Value} (h : w.ownsRow base e size v n xs) : ∃ a c, v = .slice a n c := by
  rcases h.2 with ⟨h, q⟩ | ⟨g, c, _, h, _⟩
  · exact ⟨_, _, by rw [q]; exact h⟩
  · exact ⟨_, _, h⟩
theorem rs_start {w1 w2 : World} {G n : Nat} {sn : List Bool} (l : Later w1 w2) (hG : w1.heap.size ≤ G) (hx : RB w2 G sn) (ht : RT w2 G 4) (hl : sn.length = n) : Rs w1 (w2.alloc (.cells #[.int .i64 0] 3)) w2.heap.size G (.slice (some ⟨w2.heap.size, 0, none⟩) 1 1) n sn [0] :=
  ⟨l.trans (later1 _ _), hx.later (later1 _ _), ht.later (later1 _ _), ⟨rfl, .inr ⟨w2.heap.size, 1, #[.int .i64 0], rfl, Nat.le_refl _, by unfold World.alloc; simp, Nat.le_refl _, by unfold maxLen; omega, rfl, rfl⟩⟩, hl, hG, hx.lt, by simp⟩
theorem bfs_start {E : Nat → Nat → Prop} {av : Nat → Prop} {n : Nat} (h0 : 0 < n) (ha : ¬ av 0) : Bfs E av n ((List.replicate n false).set 0 true) [0] 0 (fun _ _ => False) where
  nodup := by simp
  bound := fun i hi => by rw [List.mem_singleton.1 hi]; exact h0
  seen := fun i => by
    rw [sg_set (by simp; exact h0), sg_rep, List.mem_singleton]
    unfold setB
    by_cases q : i = 0
    · rw [if_pos q]; exact ⟨fun _ => q, fun _ => rfl⟩
    · rw [if_neg q]; exact ⟨fun r => (by cases r), fun r => absurd r q⟩
  rc := fun i hi => by rw [List.mem_singleton.1 hi]; exact .zero ha
  zero := by simp
  done := fun r _ hr => absurd hr (Nat.not_lt_zero _)
  part := fun _ _ q => q.elim
set_option maxRecDepth 20000 in
set_option maxHeartbeats 4000000 in
theorem reach_any (x : Fc) (a0 a1 : Option Addr) (n0 p0 n1 p1 : Nat) (zrk zrn : Int) (a : Option Addr) (n cap : Nat) (d : Int) (w : World) (hx : x.lead) (hnb : Hid (n = x.blocks.length)) (hn4 : n ≤ 400) (h : RdL w 5 (.slice a n cap) (Bl.dats x.blocks)) :
    Calls Try.prog 36 #[.agg #[.slice a0 n0 p0, .int .i64 zrk, .int .i64 zrn, .slice a1 n1 p1, .slice a n cap], .int .i64 d] w (ReachP x d n w) := by
  obtain ⟨i0, hi, hz0, hz1, hz2⟩ := info_parts Try.info3
  obtain ⟨j0, ji, jz0, jz1, jz2⟩ := info_parts Try.info4
  have hni : (n : Int) ≤ 400 := by omega
  have L1 := later1 w (.cells #[.slice a0 n0 p0, .int .i64 zrk, .int .i64 zrn, .slice a1 n1 p1, .slice a n cap] 37)
  have y4 : (w.alloc (.cells #[.slice a0 n0 p0, .int .i64 zrk, .int .i64 zrn, .slice a1 n1 p1, .slice a n cap] 37)).cell? ⟨w.heap.size, 4, none⟩ = some (.slice a n cap) := by simp
  have hs1 : w.heap.size < (w.alloc (.cells #[.slice a0 n0 p0, .int .i64 zrk, .int .i64 zrn, .slice a1 n1 p1, .slice a n cap] 37)).heap.size := by simp
  have HF : Hid (∀ g sn w', Later w w' → RB w' g sn → RT w' g 4 → w.heap.size ≤ g → sn.length = n → (∀ i, sg sn i = true ↔ (i < n ∧ Rc x.E (fun y => (y : Int) = d) i)) → ReachP x d n w (.returned (.slice (some ⟨g, 0, none⟩) n n)) w') := fun g sn w' h1 h2 h3 h4 h5 h6 => ⟨g, sn, rfl, h1, h2, h3, h4, h5, h6⟩
  generalize hQ : ReachP x d n w = Q at *
  have h1 := RdL.later L1 h
  clear hQ h
  go_enter Try.func36, Try.ntmps36
  go_upto_region 1 with fail
  generalize w.alloc (.cells #[.slice a0 n0 p0, .int .i64 zrk, .int .i64 zrn, .slice a1 n1 p1, .slice a n cap] 37) = w1 at *
  go_upto_region 2 with (at_make; refine wpList_make_full _ rfl _ _ 57 rfl w1.heap.size 4 j0 (.bool false) 1 Try.underlying57 ji jz0 jz1 .i64 .i64 _ _ n rfl rfl rfl rfl (by rw [jz2]; omega) (by unfold maxLen; omega) (Nat.le_refl _) ?_; intro w2 hown hgr)
  have l2 : Later w1 w2 := grown_later hgr
  have hX : RB w2 w1.heap.size (List.replicate n false) := RX.made rfl hown
  have hT : RT w2 w1.heap.size 4 := by
    rcases hown.2 with ⟨q, _⟩ | ⟨_, _, cur, q, _, hg, _⟩
    · cases q
    · cases q; exact ⟨cur, hg⟩
  have y4a := y4
  have y4 := bxcell y4 hs1 l2
  clear hown hgr
  by_cases hd0 : d = 0
  · have HA := HF.out w1.heap.size _ w2 (L1.trans l2) hX hT L1.size (List.length_replicate ..) (fun i => by
      rw [sg_rep]
      refine ⟨fun q => (by cases q), fun q => ?_⟩
      exfalso
      have : ∀ i, ¬ Rc x.E (fun y => (y : Int) = d) i := fun i r => by
        induction r with
        | zero q => exact q (by rw [hd0]; rfl)
        | step _ _ _ ih => exact ih
      exact this i q.2)
    subst hd0
    clear HF
    go_wp2_with fail
    exact HA
  · have e0 : (d == 0) = false := by simp; exact hd0
    by_cases hz : n = 0
    · have HA := HF.out w1.heap.size _ w2 (L1.trans l2) hX hT L1.size (List.length_replicate ..) (fun i => by
        rw [sg_rep]
        exact ⟨fun q => (by cases q), fun q => by have := q.1; omega⟩)
      subst hz
      clear HF
      go_wp2_with fail
      exact HA
    · have e1 : ¬ (n : Int) = 0 := by omega
      have e2 : ((n : Int) == 0) = false := by simp; omega
      have hn0 : (0 : Int) < (n : Int) := by omega
      have hR1 := rs_start (w2 := w2.setCell ⟨w1.heap.size, 0, none⟩ (.bool true)) (Later.setAt l2 (Nat.le_refl _) _ _) (Nat.le_refl _) (hX.set 0 (by simp; omega) true) (hT.set _ _ _) (n := n) (by simp)
      rw [World.size_setCell] at hR1
      have HB0 : Hid (Bfs x.E (fun y => (y : Int) = d) n ((List.replicate n false).set 0 true) [0] 0 (fun _ _ => False)) := bfs_start (by omega) (fun q => hd0 q.symm)
      obtain ⟨d1, d2⟩ := hX.at_ 0 (by simp; omega)
      obtain ⟨cz, hcz⟩ := hid_ex2 (Value.bool ((List.replicate n false).getD 0 false))
      rw [← hcz.out] at d1
      have lX := hX.lt
      go_upto_region 6 with fail
      generalize (w2.setCell ⟨w1.heap.size, 0, none⟩ (.bool true)).alloc (.cells #[.int .i64 0] 3) = w3 at *
      generalize w2.heap.size = B at *
      have y4w := y4a
      clear hX hT d1 d2 lX y4 l2 y4a
      go_wp2_with fail
      go_loopw [6, 7] (fun lv i wr => ∃ (k : Nat) (sn : List Bool) (li : List Nat), i = .int .i64 (k : Int) ∧ k ≤ li.length ∧ Rs w1 wr B w1.heap.size lv n sn li ∧ Hid (Bfs x.E (fun y => (y : Int) = d) n sn li k (fun _ _ => False))) (fun _ i _ => 400 - (intOf i).toNat)
      case atStart => exact ⟨0, _, [0], rfl, Nat.zero_le _, hR1, HB0⟩
      case round =>
        obtain ⟨k, sn, li, rfl, hk, hR, hB⟩ := hrel
        generalize wr = wo at *
        clear hR1 HB0
        obtain ⟨la, lc, rfl⟩ := own_shape2 hR.own
        have hll : li.length ≤ n := nodup_le n li hB.out.nodup hB.out.bound
        obtain ⟨M, hM⟩ := hid_ex2 li.length
        have y4o := bxcell y4w hs1 hR.lat
        by_cases hlt : k < M
        · have hkl : k < li.length := by have := hM.out; omega
          obtain ⟨g5, c5, e5, q1, lg5⟩ := hR.liCell k hkl
          rw [← hM.out] at hR e5 ⊢
          cases e5
          obtain ⟨b, hbv⟩ := hid_ex2 (li.getD k 0)
          have hbo : Hid (li[k] = b) := by
            have := hbv.out
            rw [List.getD_eq_getElem?_getD, List.getElem?_eq_getElem hkl] at this
            exact this.symm
          rw [← hbv.out] at q1
          have hbm : b ∈ li := by rw [← hbo.out]; exact List.getElem_mem hkl
          have hbn : b < n := hB.out.bound b hbm
          have hbl : b < x.blocks.length := by have := hnb.out; omega
          have ib : (b : Int) < (n : Int) := by omega
          have ik : (k : Int) < (M : Int) := by omega
          have iM : (M : Int) ≤ 400 := by have := hM.out; omega
          obtain ⟨g, off, v0, v1, v2, v3, e1, hg, _, _, _, _, c4, _, _, _, r3⟩ := Bl.elem h1 b hbl
          subst e1
          obtain ⟨a3, p3, rfl, hl3⟩ := Ed.slice r3
          have c4 : wo.cell? ⟨g, off + b * 5 + 4, none⟩ = some (.slice a3 x.blocks[b].out.length p3) := by rw [Below.cell hR.lat (p := ⟨g, off + b * 5 + 4, none⟩) hg]; exact c4
          have hB1 : Hid (Bfs x.E (fun y => (y : Int) = d) n sn li k (fun a' j => a' = b ∧ ∃ q, ∃ (hq : q < x.blocks[b].out.length), q < 0 ∧ x.blocks[b].out[q].to = (j : Int))) := hB.out.skip (fun a' j h _ => by obtain ⟨_, _, _, h, _⟩ := h; exact absurd h (Nat.not_lt_zero _))
          have hR1 : ∀ m, Rs w1 (wo.drewN m) B w1.heap.size (.slice (some ⟨g5, 0, none⟩) M lc) n sn li := fun m => hR.later (later_drewN (Later.refl _) m)
          have HR1 : Hid (∀ m, Rs w1 (wo.drewN m) B w1.heap.size (.slice (some ⟨g5, 0, none⟩) M lc) n sn li) := hR1
          clear hB hR hR1
          go_wp2_with fail
          go_quiet (fail)
          go_wp2_with fail
          go_loopw [6, 9] (fun lv i wr => ∃ (m : Nat) (sn : List Bool) (li : List Nat), i = .int .i64 (m : Int) ∧ m ≤ x.blocks[b].out.length ∧ Rs w1 wr B w1.heap.size lv n sn li ∧ Hid (∃ hk : k < li.length, li[k] = b) ∧ Hid (Bfs x.E (fun y => (y : Int) = d) n sn li k (fun a' j => a' = b ∧ ∃ q, ∃ (hq : q < x.blocks[b].out.length), q < m ∧ x.blocks[b].out[q].to = (j : Int)))) (fun _ i _ => x.blocks[b].out.length - (intOf i).toNat)
          case atStart => exact ⟨0, sn, li, rfl, Nat.zero_le _, HR1.out _, ⟨hkl, hbo.out⟩, hB1⟩
          case round =>
            obtain ⟨m, sn2, li2, rfl, hm, hS, hK, hB2⟩ := hrel
            generalize wr = wi at *
            clear HR1 hB1 q1 c4 y4o
            obtain ⟨la2, lc2, rfl⟩ := own_shape2 hS.own
            have hll2 : li2.length ≤ n := nodup_le n li2 hB2.out.nodup hB2.out.bound
            by_cases hlt2 : m < x.blocks[b].out.length
            · obtain ⟨g', off', u0, e', hg', d0, d1, s0⟩ := Ed.elem (RdL.later hS.lat r3) m hlt2
              subst e'
              have i2 : (m : Int) < (x.blocks[b].out.length : Int) := by omega
              obtain ⟨t, ht⟩ : ∃ t : Nat, Hid (x.blocks[b].out[m].to = (t : Int)) := by
                have := hx b hbl _ (List.getElem_mem hlt2)
                exact ⟨(x.blocks[b].out[m].to).toNat, show _ = _ by omega⟩
              have htn : t < n := by
                have := hx b hbl _ (List.getElem_mem hlt2)
                rw [ht.out] at this
                have := hnb.out
                omega
              have hE : x.E b t := ⟨hbl, _, List.getElem_mem hlt2, ht.out⟩
              rw [ht.out] at d0
              have hti : (t : Int) < (n : Int) := by omega
              obtain ⟨hsc, hsf⟩ := hS.xs.at_ t (by rw [hS.sl]; exact htn)
              obtain ⟨S, hS'⟩ := hid_ex2 (sn2.getD t false)
              rw [← hS'.out] at hsc
              have hsplit : ∀ (a' j : Nat), (a' = b ∧ ∃ q, ∃ (hq : q < x.blocks[b].out.length), q < m + 1 ∧ x.blocks[b].out[q].to = (j : Int)) → (a' = b ∧ ∃ q, ∃ (hq : q < x.blocks[b].out.length), q < m ∧ x.blocks[b].out[q].to = (j : Int)) ∨ j = t := fun a' j h => by
                obtain ⟨ea, q, hq, hqm, e⟩ := h
                rcases Nat.lt_or_ge q m with z | z
                · exact .inl ⟨ea, q, hq, z, e⟩
                · obtain rfl : q = m := by omega
                  rw [ht.out] at e
                  exact .inr (by omega)
              by_cases htd : (t : Int) = d
              · have e3 : ((t : Int) != d) = false := by simp [htd]
                have hB3 : Hid (Bfs x.E (fun y => (y : Int) = d) n sn2 li2 k (fun a' j => a' = b ∧ ∃ q, ∃ (hq : q < x.blocks[b].out.length), q < m + 1 ∧ x.blocks[b].out[q].to = (j : Int))) := hB2.out.skip (fun a' j h hn => (hsplit a' j h).imp id (fun q => absurd (by rw [q]; exact htd) hn))
                clear hB2 hsplit htd
                go_wp2_with fail
                go_roundw
                case rel => exact ⟨m + 1, sn2, li2, by go_num, by omega, hS, hK, hB3⟩
                case measure => simp [intOf]; omega
              · have e3 : ((t : Int) != d) = true := by simp [htd]
                cases S with
                | true =>
                  have hB3 : Hid (Bfs x.E (fun y => (y : Int) = d) n sn2 li2 k (fun a' j => a' = b ∧ ∃ q, ∃ (hq : q < x.blocks[b].out.length), q < m + 1 ∧ x.blocks[b].out[q].to = (j : Int))) := hB2.out.skip (fun a' j h hn => (hsplit a' j h).imp id (fun q => by rw [q]; exact hS'.out.symm))
                  clear hB2 hsplit
                  go_wp2_with fail
                  go_roundw
                  case rel => exact ⟨m + 1, sn2, li2, by go_num, by omega, hS, hK, hB3⟩
                  case measure => simp [intOf]; omega
                | false =>
                  have hK' := hK.out
                  obtain ⟨hkl2, hkb⟩ := hK'
                  have hB3 : Hid (Bfs x.E (fun y => (y : Int) = d) n (sn2.set t true) (li2 ++ [t]) k (fun a' j => a' = b ∧ ∃ q, ∃ (hq : q < x.blocks[b].out.length), q < m + 1 ∧ x.blocks[b].out[q].to = (j : Int))) := hB2.out.add hS.sl (by omega) (by rw [← hkb]; exact List.getElem_mem hkl2) hE htd htn hS'.out.symm (fun a' j h => hsplit a' j h)
                  have hK2 : Hid (∃ hk : k < (li2 ++ [t]).length, (li2 ++ [t])[k] = b) := ⟨by rw [List.length_append]; omega, by rw [List.getElem_append_left hkl2]; exact hkb⟩
                  have hA := (hS.mark t htn).later (later1 _ (.cells #[.int .i64 (t : Int)] 3))
                  have lS := hS.xs.lt
                  clear hB2 hsplit hK hkb hkl2
                  go_wp2_with (at_builtin; refine wpList_append_own _ rfl _ _ 30 rfl B 3 i0 (.int .i64 0) 1 8 Try.underlying30 hi hz0 hz1 hz2 rfl (by decide) (.slice la2 li2.length lc2) _ _ rfl hA.own ⟨wi.heap.size, 0, none⟩ 1 1 [.int .i64 (t : Int)] rfl rfl (by have := new_onei (wi.setCell ⟨w1.heap.size, t, none⟩ (.bool true)) (t : Int); rw [World.size_setCell] at this; exact this) (by simp [Value.oneCell']) (by unfold maxLen; omega) (by omega) hA.bs ?_; intro v3 w3' o3 g3 _; obtain ⟨a9, m9, c9, rfl⟩ := own_shape o3; have hA2 := hA.put o3 g3)
                  go_roundw
                  case rel => exact ⟨m + 1, _, _, by go_num, by omega, hA2, hK2, hB3⟩
                  case measure => simp [intOf]; omega
            · have i2 : ¬ (m : Int) < (x.blocks[b].out.length : Int) := by omega
              obtain ⟨hkl2, hkb⟩ := hK.out
              have hB3 : Hid (Bfs x.E (fun y => (y : Int) = d) n sn2 li2 (k + 1) (fun _ _ => False)) := hB2.out.next hkl2 (fun j hj => by
                rw [hkb] at hj ⊢
                obtain ⟨_, e, he, ej⟩ := hj
                obtain ⟨q, hq, rfl⟩ := List.getElem_of_mem he
                exact ⟨rfl, q, hq, by omega, ej⟩)
              have hkk : Hid (k + 1 ≤ li2.length) := hkl2
              clear hB2 hK hkb hkl2
              go_wp2_with fail
              go_roundw
              case rel => exact ⟨k + 1, sn2, li2, by go_num, hkk.out, hS, hB3⟩
              case measure => simp [intOf]; omega
        · have HA := HF.out w1.heap.size sn wo (L1.trans hR.lat) hR.xs hR.rt L1.size hR.sl (fun i => by
            rw [hB.out.all (by have := hM.out; omega) i]
            refine ⟨fun q => ⟨?_, q⟩, fun q => q.2⟩
            have := Fc.Rd_lt hx (by have := hnb.out; omega) (Rc.mono (fun _ (z : False) => z.elim) q)
            rw [hnb.out]; exact this)
          rw [← hM.out] at hR ⊢
          have ik : ¬ (k : Int) < (M : Int) := by omega
          clear HF hB
          go_wp2_with fail
          exact HA
end Go.Proofs.Ythammngddmkhhaa
