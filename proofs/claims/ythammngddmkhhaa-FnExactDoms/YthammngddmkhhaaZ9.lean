/- Doms, by the program. -/
import Derived.Test.YthammngddmkhhaaZ8
namespace Go.Proofs.Ythammngddmkhhaa
open Go.RowKit

/-- May it be asked? -/
def Fc.may (x : Fc) : Prop := 0 < x.blocks.length ∧ x.blocks.length ≤ 400 ∧ x.lead
/-- What Doms answers. -/
def IsAns (x : Fc) (zs : List Int) : Prop := (x.may → IsDoms x.E x.blocks.length zs) ∧ (¬ x.may → zs = [])
theorem IsAns.unique {x : Fc} {xs ys : List Int} (h : IsAns x xs) (k : IsAns x ys) : xs = ys := by
  by_cases q : x.may
  · exact (h.1 q).unique (k.1 q)
  · rw [h.2 q, k.2 q]
def DomsA (x : Fc) (w : World) (e : Ending) (w' : World) : Prop := ∃ a M c zs, e = .returned (.slice a M c) ∧ Later w w' ∧ AnsK .i64 w.heap.size w' (.slice a M c) zs ∧ Hid (M = zs.length) ∧ IsAns x zs
theorem DomsA.empty {x : Fc} (hx : ¬ x.may) {w w' : World} (l : Later w w') : DomsA x w (.returned (.slice none 0 0)) w' := ⟨none, 0, 0, [], rfl, l, AnsK.nil _ _ _, rfl, fun h => absurd h hx, fun _ => rfl⟩
/-- A row of numbers, read. -/
def rdN (w : World) (g n : Nat) : List Int := (List.range n).map (fun i => match w.cell? ⟨g, i, Option.none⟩ with | some (.int _ z) => z | _ => 0)
theorem rdN_eq {w : World} {g n : Nat} {ne : List Int} (h : RI w g ne) (hl : ne.length = n) : rdN w g n = ne := by
  subst hl
  apply List.ext_getElem?
  intro j
  unfold rdN
  rw [List.getElem?_map]
  by_cases hj : j < ne.length
  · have := (h.at_ j hj).1
    rw [List.getElem?_range hj, List.getElem?_eq_getElem hj, Option.map_some, this, List.getD_eq_getElem?_getD, List.getElem?_eq_getElem hj]
    rfl
  · rw [List.getElem?_eq_none (by simp; omega), List.getElem?_eq_none (by omega)]
    rfl
theorem sg_rep (n : Nat) : sg (List.replicate n false) = fun _ => false := by
  funext i
  unfold sg
  rw [List.getD_eq_getElem?_getD, List.getElem?_replicate]
  split <;> rfl
theorem ng_rep {n i : Nat} (h : i < n) : ng (List.replicate n (-1)) i = -1 := by
  unfold ng
  rw [List.getD_eq_getElem?_getD, List.getElem?_replicate, if_pos h]
  rfl
theorem NInv.start {x : Fc} (hx : x.lead) {n : Nat} (hn : n = x.blocks.length) (h0 : 0 < n) {s' : Nat → Bool} {nw rk : List Nat} {ne : List Int} (v : Vis x.E n 0 (fun _ => false) s' nw (ng (List.replicate n (-1))) (ng ne)) (hr : Ranks nw.reverse (rf rk)) : NInv x.E n rk ne := by
  refine ⟨v.tree hr, fun i hi hz => ?_, fun i hi hno => ?_, fun i hi => by rw [hn]; exact Fc.Rd_lt hx (by omega) hi⟩
  · obtain ⟨u, hu, _⟩ := v.par i ((v.reached i).2 hi) hz
    unfold pf
    rw [hu, Int.toNat_natCast]
  · rw [v.keep i ?_]
    · exact ng_rep hi
    · by_cases q : i = 0
      · exact .inr q
      · exact .inl (fun m => hno ⟨(v.reached i).1 m, q⟩)
theorem NInv.isDoms {E : Nat → Nat → Prop} {n : Nat} {rk : List Nat} {ne : List Int} (h : NInv E n rk ne) (hl : ne.length = n) (f : ∀ a b, Rd E a → E a b → b ≠ 0 → An (pf ne) (pf ne b) a) : IsDoms E n ne :=
  ⟨hl, fun b _ hr hz => ⟨pf ne b, h.yes b hr hz, h.tree.done f hr hz⟩, fun b hb hno => h.no b hb hno⟩
set_option maxRecDepth 20000 in
set_option maxHeartbeats 4000000 in
theorem idoms_any (x : Fc) (v0 v1 v2 : Value) (w : World) (h0 : RdL w 2 v0 (Tp.dats x.params)) (h1 : RdL w 5 v1 (Va.dats x.vals)) (h2 : RdL w 5 v2 (Bl.dats x.blocks)) :
    Calls Try.prog 7 #[.agg #[v0, .int .i64 x.rk, .int .i64 x.rn, v1, v2]] w (DomsA x w) := by
  obtain ⟨a0, p0, rfl, _⟩ := Tp.slice h0
  obtain ⟨a1, p1, rfl, _⟩ := Va.slice h1
  obtain ⟨a2, p2, rfl, hl2⟩ := Bl.slice h2
  generalize x.rk = zrk
  generalize x.rn = zrn
  obtain ⟨n, hnb⟩ := hid_ex2 x.blocks.length
  obtain ⟨n0, hn0⟩ := hid_ex2 x.params.length
  obtain ⟨n1, hn1⟩ := hid_ex2 x.vals.length
  rw [← hnb.out] at h2 hl2 ⊢
  rw [← hn0.out, ← hn1.out]
  have HNo : Hid (∀ w', ¬ x.may → Later w w' → DomsA x w (.returned (.slice none 0 0)) w') := fun w' hx l => DomsA.empty hx l
  have hlead := fun w' (l : Later w w') => ilead_any x _ w' (RdL.later l h2)
  by_cases hz : n = 0
  · have HA := fun w' => HNo.out w' (fun q => by have := q.1; rw [← hnb.out] at this; omega)
    have HA' : Hid (∀ o, DomsA x w (.returned (.slice none 0 0)) (w.alloc o)) := fun o => HA _ (later1 _ _)
    generalize hQ : DomsA x w = Q at *
    subst hz
    clear hQ HNo hlead HA
    go_enter Try.func7, Try.ntmps7
    go_wp2_with fail
    exact HA'.out _
  · by_cases hb : (400 : Int) < (n : Int)
    · have HA := fun w' => HNo.out w' (fun q => by have := q.2.1; rw [← hnb.out] at this; omega)
      have HA' : Hid (∀ o, DomsA x w (.returned (.slice none 0 0)) (w.alloc o)) := fun o => HA _ (later1 _ _)
      have i0 : ¬ (n : Int) = 0 := by omega
      have i1 : ((n : Int) == 0) = false := by simp; omega
      generalize hQ : DomsA x w = Q at *
      clear hQ HNo hlead HA
      go_enter Try.func7, Try.ntmps7
      go_wp2_with fail
      exact HA'.out _
    · have i0 : ¬ (n : Int) = 0 := by omega
      have i1 : ((n : Int) == 0) = false := by simp; omega
      have hn4 : n ≤ 400 := by omega
      have HY : Hid (∀ gn ne w', IsDoms x.E n ne → x.lead → Later w w' → w.heap.size ≤ gn → RI w' gn ne → DomsA x w (.returned (.slice (some ⟨gn, 0, Option.none⟩) n n)) w') := fun gn ne w' hD hx l hg hr => ⟨_, n, n, ne, rfl, l, ⟨_, n, by rw [hD.len], by rw [hD.len]; omega, fun _ => ⟨gn, rfl, hg, hr.lt, fun j hj => hr.at_ j hj⟩⟩, hD.len.symm, fun _ => by rw [← hnb.out]; exact hD, fun q => absurd ⟨by have := hnb.out; omega, by have := hnb.out; omega, hx⟩ q⟩
      generalize hQ : DomsA x w = Q at *
      clear hQ
      go_enter Try.func7, Try.ntmps7
      go_wp2_with fail
      refine (hlead _ (later1 _ _)).mono ?_
      rintro e w1 ⟨b, rfl, hbl, l1⟩
      have L1 := (later1 _ _).trans l1
      cases b with
      | false =>
        have HA := HNo.out w1 (fun q => by have := hbl.2 q.2.2; cases this) L1
        clear HNo hlead HY hbl
        go_wp2_with fail
        exact HA
      | true =>
        have hx := hbl.1 rfl
        have hr1 := RdL.later L1 h2
        have y4 : w1.cell? ⟨w.heap.size, 4, Option.none⟩ = some (.slice a2 n p2) := by rw [Below.cell l1 (p := ⟨w.heap.size, 4, Option.none⟩) (by simp)]; simp
        clear HNo hlead hbl l1
        go_wp2_with fail
        refine (new_any w1 a2 n p2 hn4).mono ?_
        rintro e w2 ⟨B, K, gs, gr, gn, rfl, hW2⟩
        have hni : (n : Int) ≤ 400 := by omega
        have hV := visit_all x w1 B K gs gr gn a2 p2 n hx hr1 hnb.out hn4 (uns n (sg (List.replicate n false)) + 1) 0 w2 (.slice Option.none 0 0) (List.replicate n false) [] (List.replicate n 0) (List.replicate n (-1)) (Nat.lt_succ_self _) hW2 ⟨List.nodup_nil, fun i hi => (by cases hi), fun i hi => (by cases hi)⟩ (by omega) (by rw [sg_rep]) (Rd.zero _)
        clear y4
        go_wp2_with fail
        refine hV.mono ?_
        rintro e w3 ⟨rfl, ov, sn, nw, ne, hW3, hVis⟩
        rw [List.nil_append] at hW3
        rw [sg_rep] at hVis
        have hnl : nw.length ≤ n := nodup_le n nw hVis.nodup hVis.bound
        have hnp : 0 < nw.length := by
          obtain ⟨l, hl⟩ := hVis.last
          rw [hl]; simp
        obtain ⟨go, co, rfl⟩ : ∃ go co, ov = .slice (some ⟨go, 0, Option.none⟩) nw.length co := by
          rcases hW3.own.2 with ⟨_, q⟩ | ⟨g, c, _, q, _⟩
          · omega
          · exact ⟨g, c, q⟩
        obtain ⟨y0, y1, y2, y3, y4, y5⟩ := hW3.cells
        have hRev := reverse_any w1 w3 B K gs gr gn _ go co n sn nw (List.replicate n 0) ne (by omega) hnp hW3
        obtain ⟨L, hL⟩ := hid_ex2 nw.length
        rw [← hL.out] at hRev y2
        clear hV hW2
        go_wp2_with fail
        refine hRev.mono ?_
        rintro e w4 ⟨rfl, hW4⟩
        obtain ⟨od, hod⟩ := hid_ex2 nw.reverse
        rw [← hod.out] at hW4
        have hodl : Hid (od.length = L) := by rw [hod.out, hL.out]; exact List.length_reverse
        have hodn : Hid (od.Nodup) := by rw [hod.out]; exact List.pairwise_reverse.2 (hVis.nodup.imp (fun h => Ne.symm h))
        have hodb : Hid (∀ i ∈ od, i < n) := by rw [hod.out]; exact fun i hi => hVis.bound i (List.mem_reverse.1 hi)
        have hLi : (L : Int) ≤ 400 := by have := hL.out; omega
        clear y0 y1 y2 y3 y4 y5 hW3 hRev
        obtain ⟨y0, y1, y2, y3, y4, y5⟩ := hW4.cells
        go_wp2_with fail
        go_loopw [37] (fun i wr => ∃ (j : Nat) (rk : List Nat), i = .int .i64 (j : Int) ∧ j ≤ L ∧ Wf w1 wr B K gs gr gn (.slice a2 n p2) (.slice (some ⟨go, 0, Option.none⟩) L co) n sn od rk ne ∧ Hid (∀ r (hr : r < od.length), r < j → rf rk od[r] = r)) (fun i _ => L - (intOf i).toNat)
        case atStart => exact ⟨0, _, rfl, Nat.zero_le _, hW4, fun r _ hr => absurd hr (Nat.not_lt_zero _)⟩
        case round =>
          obtain ⟨j, rk, rfl, hj, hR, hrk⟩ := hrel
          generalize wr = wo at *
          clear y0 y1 y2 y3 y4 y5 hW4
          obtain ⟨y0, y1, y2, y3, y4, y5⟩ := hR.cells
          by_cases hlt : j < L
          · have hjo : j < od.length := by have := hodl.out; omega
            obtain ⟨q1, _⟩ := hR.odCell j hjo
            obtain ⟨b, hbv⟩ := hid_ex2 (od.getD j 0)
            have hbo : Hid (od[j] = b) := by
              have := hbv.out
              rw [List.getD_eq_getElem?_getD, List.getElem?_eq_getElem hjo] at this
              exact this.symm
            rw [← hbv.out] at q1
            have hbn : b < n := hodb.out b (by rw [← hbo.out]; exact List.getElem_mem hjo)
            have ib : (b : Int) < (n : Int) := by omega
            have ij : (j : Int) < (L : Int) := by omega
            obtain ⟨hc, hf⟩ := hR.xr.at_ b (by rw [hR.rl]; exact hbn)
            obtain ⟨Z, hZ⟩ := hid_ex2 (vn (rk.getD b 0))
            rw [← hZ.out] at hc
            have hR2 := hR.setRk b hbn j
            have hrk2 : Hid (∀ r (hr : r < od.length), r < j + 1 → rf (rk.set b j) od[r] = r) := fun r hr hrj => by
              unfold rf
              rw [getD_set _ _ _ _ _ (by rw [hR.rl]; exact hbn)]
              by_cases q : r = j
              · subst q
                rw [if_pos hbo.out]
              · rw [if_neg (fun e => List.pairwise_iff_getElem.1 hodn.out r j hr hjo (by omega) (by rw [e, hbo.out]))]
                exact hrk.out r hr (by omega)
            clear hR hrk
            go_wp2_with fail
            go_roundw
            case rel => exact ⟨j + 1, _, by go_num, by omega, hR2, hrk2⟩
            case measure => simp [intOf]; omega
          · have ij : ¬ (j : Int) < (L : Int) := by omega
            have hRk : Ranks nw.reverse (rf rk) := by rw [← hod.out]; exact fun r hr => hrk.out r hr (by have := hodl.out; omega)
            have hI0 := NInv.start hx hnb.out (by omega) hVis hRk
            have hmem : ∀ i, i ∈ od ↔ Rd x.E i := fun i => by rw [hod.out, List.mem_reverse]; exact hVis.reached i
            clear hrk hVis hodn hodb hRk
            go_wp2_with fail
            go_loopw [] (fun wr => ∃ (ne' : List Int), Wf w1 wr B K gs gr gn (.slice a2 n p2) (.slice (some ⟨go, 0, Option.none⟩) L co) n sn od rk ne' ∧ NInv x.E n rk ne') (fun wr => msr n rk (rdN wr gn n))
            case atStart => exact ⟨ne, hR, hI0⟩
            case round =>
              obtain ⟨ne', hS, hI⟩ := hrel
              generalize wr = wi at *
              have hN := narrow_any x w1 wi B K gs gr gn a2 p2 n hx hr1 hnb.out hn4 go co L sn od rk ne' hS hI hmem hodl.out.symm (by omega)
              have hrd := rdN_eq hS.xn hS.nl
              clear hR hI0
              go_wp2_with fail
              refine hN.mono ?_
              rintro e w6 ⟨mv, ne2, rfl, hS2, hI2, hy, hno⟩
              cases mv with
              | true =>
                have hm := hy rfl
                have hrd2 := rdN_eq hS2.xn hS2.nl
                clear hN
                go_wp2_with fail
                go_roundw
                case rel => exact ⟨ne2, hS2, hI2⟩
                case measure => rw [hrd, hrd2]; exact hm
              | false =>
                obtain ⟨e2, hfix⟩ := hno rfl
                subst e2
                have hD := hI2.isDoms hS2.nl hfix
                have HA := HY.out gn ne2 w6 hD hx (L1.trans hS2.lat) (Nat.le_trans L1.size hS2.base.2.2.2) hS2.xn
                obtain ⟨y0, y1, y2, y3, y4, y5⟩ := hS2.cells
                clear hN HY
                go_wp2_with fail
                exact HA
end Go.Proofs.Ythammngddmkhhaa
