/- A visit, for every block. -/
import Derived.Test.YthammngddmkhhaaZ4
namespace Go.Proofs.Ythammngddmkhhaa
open Go.RowKit

def sg (sn : List Bool) : Nat → Bool := fun i => sn.getD i false
def ng (ne : List Int) : Nat → Int := fun i => ne.getD i 0
theorem sg_set {sn : List Bool} {b : Nat} (hb : b < sn.length) : sg (sn.set b true) = setB (sg sn) b := by
  funext i
  unfold sg setB
  exact getD_set _ _ _ _ _ hb
theorem ng_set {ne : List Int} {b : Nat} (hb : b < ne.length) (v : Int) : ng (ne.set b v) = setI (ng ne) b v := by
  funext i
  unfold ng setI
  exact getD_set _ _ _ _ _ hb
/-- How many are not seen. -/
def uns (n : Nat) (s : Nat → Bool) : Nat := (List.range n).countP (fun i => !s i)
theorem uns_lt {n : Nat} {s s' : Nat → Bool} (hg : ∀ i, s i = true → s' i = true) {b : Nat} (hb : b < n) (h0 : s b = false) (h1 : s' b = true) : uns n s' < uns n s := by
  refine count_lt _ (fun x _ h => ?_) b (List.mem_range.2 hb) (by rw [h1]; rfl) (by rw [h0]; rfl)
  cases q : s x
  · rfl
  · rw [hg x q] at h; cases h
theorem nodup_le : ∀ (n : Nat) (l : List Nat), l.Nodup → (∀ i ∈ l, i < n) → l.length ≤ n
  | 0, [], _, _ => Nat.le_refl _
  | 0, a :: r, _, h => absurd (h a (List.mem_cons_self ..)) (Nat.not_lt_zero _)
  | n + 1, l, hn, h => by
    by_cases q : n ∈ l
    · have h1 := nodup_le n (l.erase n) (hn.erase n) (fun i hi => by
        have := h i (List.mem_of_mem_erase hi)
        have hne : i ≠ n := fun e => by
          rw [e] at hi
          exact absurd hi (by rw [hn.mem_erase_iff]; simp)
        omega)
      rw [List.length_erase_of_mem q] at h1
      omega
    · have := nodup_le n l hn (fun i hi => by
        have := h i hi
        have hne : i ≠ n := fun e => q (by rw [← e]; exact hi)
        omega)
      omega
/-- The order so far: none twice, all of them seen. -/
structure OdOk (n : Nat) (s : Nat → Bool) (od : List Nat) : Prop where
  nodup : od.Nodup
  bound : ∀ i ∈ od, i < n
  seen : ∀ i ∈ od, s i = true
theorem OdOk.app {n : Nat} {s s' : Nat → Bool} {od nw : List Nat} (h : OdOk n s od) (hg : ∀ i, s i = true → s' i = true) (hn : nw.Nodup) (hb : ∀ i ∈ nw, i < n) (hm : ∀ i ∈ nw, s' i = true ∧ s i = false) : OdOk n s' (od ++ nw) :=
  ⟨List.nodup_append.2 ⟨h.nodup, hn, fun a ha c hc e => by
      have h1 := h.seen a ha
      have h2 := (hm c hc).2
      rw [← e, h1] at h2
      cases h2⟩, fun i hi => (List.mem_append.1 hi).elim (h.bound i) (hb i), fun i hi => (List.mem_append.1 hi).elim (fun q => hg i (h.seen i q)) (fun q => (hm i q).1)⟩
/-- What a visit of b leaves. -/
def VisP (E : Nat → Nat → Prop) (W : World) (B K gs gr gn : Nat) (bv : Value) (n b : Nat) (sn : List Bool) (od rk : List Nat) (ne : List Int) (e : Ending) (w' : World) : Prop := e = .returned (.tuple #[]) ∧ ∃ ov' sn' nw ne', Wf W w' B K gs gr gn bv ov' n sn' (od ++ nw) rk ne' ∧ Vis E n b (sg sn) (sg sn') nw (ng ne) (ng ne')
theorem new_onei (w : World) (z : Int) : ∀ j u, [Value.int .i64 z][j]? = some u → (w.alloc (.cells #[.int .i64 z] 3)).cell? ((⟨w.heap.size, 0, none⟩ : Addr).add j) = some u := by
  intro j u h
  match j with
  | 0 =>
    have : Value.int .i64 z = u := by simpa using h
    rw [← this]
    simp [Addr.add]
  | j + 1 => simp at h
theorem Wf.kept {W w w' : World} {B K gs gr gn : Nat} {bv ov : Value} {n : Nat} {sn : List Bool} {od rk : List Nat} {ne : List Int} (h : Wf W w B K gs gr gn bv ov n sn od rk ne) (g : w.grownBy w' ov.ownBlock) : w'.cell? ⟨K, 2, none⟩ = some ov ∧ w'.frozen? ⟨K, 2, none⟩ = false := by
  obtain ⟨_, _, y2, _, _, y5⟩ := h.cells
  obtain ⟨e1, e2⟩ := cell_block (g.block K (Nat.lt_of_lt_of_le h.top.1 h.bs) (fun e => by
    have h1 := (h.own.lt K e.symm).1
    have h2 := h.top.1
    omega)) 2
  rw [e1, e2]
  exact ⟨y2, y5⟩
theorem own_shape {w : World} {base : Nat} {e : TypeId} {size : Nat} {v : Value} {n : Nat} {xs : List Value} (h : w.ownsRow base e size v n xs) : ∃ a m c, v = .slice a m c := by
  rcases h.2 with ⟨h, _⟩ | ⟨g, c, _, h, _⟩
  · exact ⟨_, _, _, h⟩
  · exact ⟨_, _, _, h⟩
set_option maxRecDepth 20000 in
set_option maxHeartbeats 8000000 in
theorem visit_all (x : Fc) (W : World) (B K gs gr gn : Nat) (a : Option Addr) (cap n : Nat) (hx : x.lead) (hb : RdL W 5 (.slice a n cap) (Bl.dats x.blocks)) (hnb : n = x.blocks.length) (hn : n ≤ 400) (N : Nat) : ∀ (b : Nat) (w : World) (ov : Value) (sn : List Bool) (od rk : List Nat) (ne : List Int),
    uns n (sg sn) < N → Wf W w B K gs gr gn (.slice a n cap) ov n sn od rk ne → OdOk n (sg sn) od → b < n → sg sn b = false → Rd x.E b →
    Calls Try.prog 24 #[.pointer (some ⟨K, 0, none⟩), .int .i64 (b : Int)] w (VisP x.E W B K gs gr gn (.slice a n cap) n b sn od rk ne) := by
  induction N with
  | zero => intro b w ov sn od rk ne h; exact absurd h (Nat.not_lt_zero _)
  | succ N IH =>
  intro b w ov sn od rk ne hN hW hO hbn hsb hr
  obtain ⟨i0, hi, hz0, hz1, hz2⟩ := info_parts Try.info3
  have hbl : b < x.blocks.length := by omega
  have hbi : (b : Int) < (n : Int) := by omega
  have hni : (n : Int) ≤ 400 := by omega
  obtain ⟨y0, y1, y2, y3, y4, y5⟩ := hW.cells
  obtain ⟨hsc, hsf⟩ := hW.xs.at_ b (by rw [hW.sl]; exact hbn)
  have h1 := hW.setSeen b hbn
  have HV : Hid (VisL x.E n b (sg sn) (sg (sn.set b true)) [] (ng ne) (ng ne) (fun _ => False)) := by rw [sg_set (by rw [hW.sl]; exact hbn)]; exact VisL.start hsb
  generalize hQ : VisP x.E W B K gs gr gn (.slice a n cap) n b sn od rk ne = Q at *
  have hQ' : Hid (VisP x.E W B K gs gr gn (.slice a n cap) n b sn od rk ne = Q) := hQ
  clear hQ
  go_enter Try.func24, Try.ntmps24
  go_upto_region 1 with fail
  generalize w.setCell (⟨gs, b, none⟩ : Addr) (Value.bool true) = w1 at *
  clear y0 y1 y2 y3 y4 y5 hsc hsf hW
  obtain ⟨y0, y1, y2, y3, y4, y5⟩ := h1.cells
  obtain ⟨g, off, v0, v1, v2, v3, e1, hg, _, _, _, _, c4, _, _, _, r3⟩ := Bl.elem hb b hbl
  subst e1
  obtain ⟨a3, p3, rfl, hl3⟩ := Ed.slice r3
  have c4 : w1.cell? ⟨g, off + b * 5 + 4, none⟩ = some (.slice a3 x.blocks[b].out.length p3) := by rw [Below.cell h1.lat (p := ⟨g, off + b * 5 + 4, none⟩) hg]; exact c4
  go_wp2_with fail
  go_loopw [21] (fun i wr => ∃ (k : Nat) (ov' : Value) (sn' : List Bool) (nw : List Nat) (ne' : List Int), i = .int .i64 (k : Int) ∧ k ≤ x.blocks[b].out.length ∧ Wf W wr B K gs gr gn (.slice (some ⟨g, off, none⟩) n cap) ov' n sn' (od ++ nw) rk ne' ∧ Hid (VisL x.E n b (sg sn) (sg sn') nw (ng ne) (ng ne') (fun j => ∃ q, ∃ (hq : q < x.blocks[b].out.length), q < k ∧ x.blocks[b].out[q].to = (j : Int)))) (fun i _ => x.blocks[b].out.length - (intOf i).toNat)
  case atStart => exact ⟨0, ov, _, [], ne, rfl, Nat.zero_le _, by rw [List.append_nil]; exact h1, { HV.out with done := fun j hj => by obtain ⟨q, _, hq, _⟩ := hj; exact absurd hq (Nat.not_lt_zero _) }⟩
  case round =>
    obtain ⟨k, ov', sn', nw, ne', rfl, hk, hR, hV⟩ := hrel
    generalize wr = wq at *
    clear h1 HV y0 y1 y2 y3 y4 y5 c4
    obtain ⟨y0, y1, y2, y3, y4, y5⟩ := hR.cells
    by_cases hlt : k < x.blocks[b].out.length
    · obtain ⟨g', off', u0, e', hg', d0, d1, s0⟩ := Ed.elem (RdL.later hR.lat r3) k hlt
      obtain ⟨b0, z0, rfl, _⟩ := In.slice s0
      subst e'
      have i2 : (k : Int) < (x.blocks[b].out.length : Int) := by omega
      obtain ⟨t, ht⟩ : ∃ t : Nat, Hid (x.blocks[b].out[k].to = (t : Int)) := by
        have := hx b hbl _ (List.getElem_mem hlt)
        exact ⟨(x.blocks[b].out[k].to).toNat, show _ = _ by omega⟩
      have htn : t < n := by
        have := hx b hbl _ (List.getElem_mem hlt)
        rw [ht.out] at this
        omega
      have hE : x.E b t := ⟨hbl, _, List.getElem_mem hlt, ht.out⟩
      rw [ht.out] at d0
      have hti : (t : Int) < (n : Int) := by omega
      obtain ⟨hsc, hsf⟩ := hR.xs.at_ t (by rw [hR.sl]; exact htn)
      obtain ⟨hnc, hnf⟩ := hR.xn.at_ t (by rw [hR.nl]; exact htn)
      have lK := hR.box.lt
      have lS := hR.xs.lt
      have lN := hR.xn.lt
      obtain ⟨S, hS⟩ := hid_ex2 (sn'.getD t false)
      obtain ⟨Z, hZ⟩ := hid_ex2 (ne'.getD t 0)
      rw [← hS.out] at hsc
      rw [← hZ.out] at hnc
      have hD : ∀ (s' : Nat → Bool) (nw' : List Nat) (e' : Nat → Int), VisL x.E n b (sg sn) s' nw' (ng ne) e' (fun j => (∃ q, ∃ (hq : q < x.blocks[b].out.length), q < k ∧ x.blocks[b].out[q].to = (j : Int)) ∨ j = t) → Hid (VisL x.E n b (sg sn) s' nw' (ng ne) e' (fun j => ∃ q, ∃ (hq : q < x.blocks[b].out.length), q < k + 1 ∧ x.blocks[b].out[q].to = (j : Int))) := fun s' nw' e' h => { h with done := fun j hj => h.done j (by
        obtain ⟨q, hq, hqk, e⟩ := hj
        rcases Nat.lt_or_ge q k with z | z
        · exact .inl ⟨q, hq, z, e⟩
        · obtain rfl : q = k := by omega
          rw [ht.out] at e
          exact .inr (by omega)) }
      cases S with
      | true =>
        have hV2 := hD _ _ _ (hV.out.skip (t := t) hS.out.symm)
        have hR2 := fun o m => hR.later (later_drewN (later1 wq o) m)
        clear hD hV hR
        go_wp2_with fail
        go_quiet (fail)
        go_wp2_with fail
        go_roundw
        case rel => exact ⟨k + 1, _, _, _, _, by go_num, by omega, hR2 _ _, hV2⟩
        case measure => simp [intOf]; omega
      | false =>
        have hst : sg sn' t = false := hS.out.symm
        have hO2 : OdOk n (sg sn') (od ++ nw) := hO.app hV.out.grow hV.out.nodup hV.out.bound (fun i hi => ⟨((hV.out.new i).1 hi).1, ((hV.out.new i).1 hi).2.1⟩)
        have hI := fun w' hW' => IH t w' ov' sn' (od ++ nw) rk (ne'.set t (b : Int)) (by have := uns_lt hV.out.grow hbn hsb hV.out.seen; omega) hW' hO2 htn hst (hr.step hE)
        have hnl := hR.nl
        have hR2 : ∀ o m, Wf W (((wq.alloc o).drewN m).setCell ⟨gn, t, none⟩ (.int .i64 (b : Int))) B K gs gr gn (.slice (some ⟨g, off, none⟩) n cap) ov' n sn' (od ++ nw) rk (ne'.set t (b : Int)) := fun o m => (hR.later (later_drewN (later1 wq o) m)).setNe t htn (b : Int)
        have hG : Hid (∀ (s2 : Nat → Bool) (nw2 : List Nat) (e2 : Nat → Int), Vis x.E n t (sg sn') s2 nw2 (ng (ne'.set t (b : Int))) e2 → VisL x.E n b (sg sn) s2 (nw ++ nw2) (ng ne) e2 (fun j => ∃ q, ∃ (hq : q < x.blocks[b].out.length), q < k + 1 ∧ x.blocks[b].out[q].to = (j : Int))) := fun s2 nw2 e2 v => (hD _ _ _ (hV.out.go hst hE (by rw [ng_set (by rw [hnl]; exact htn)] at v; exact v))).out
        clear hD hV hR hO2
        go_wp2_with fail
        go_quiet (fail)
        go_wp2_with fail
        go_region
        all_goals
          go_wp2_with fail
          refine (hI _ (hR2 _ _)).mono ?_
          rintro e w5 ⟨rfl, ov5, sn5, nw5, ne5, hW5, hV5⟩
          have hV6 := hG.out _ _ _ hV5
          rw [List.append_assoc] at hW5
          clear hI hG
          go_wp2_with fail
          go_roundw
          case rel => exact ⟨k + 1, _, _, _, _, by go_num, by omega, hW5, hV6⟩
          case measure => simp [intOf]; omega
    · have i2 : ¬ (k : Int) < (x.blocks[b].out.length : Int) := by omega
      have hke : k = x.blocks[b].out.length := by omega
      have hF : Hid (Vis x.E n b (sg sn) (sg sn') (nw ++ [b]) (ng ne) (ng ne')) := hV.out.finish hbn hr (fun j hj => by
        obtain ⟨_, e, he, ej⟩ := hj
        obtain ⟨q, hq, rfl⟩ := List.getElem_of_mem he
        exact ⟨q, hq, by omega, ej⟩)
      have hlen : (od ++ nw).length ≤ n := by
        have hO2 : OdOk n (sg sn') (od ++ nw) := hO.app hV.out.grow hV.out.nodup hV.out.bound (fun i hi => ⟨((hV.out.new i).1 hi).1, ((hV.out.new i).1 hi).2.1⟩)
        exact nodup_le n _ hO2.nodup hO2.bound
      have lK := hR.box.lt
      have hA := fun o => hR.later (later1 wq o)
      have HA : Hid (∀ w', Wf W w' B K gs gr gn (.slice (some ⟨g, off, none⟩) n cap) ov' n sn' (od ++ nw) rk ne' → ∀ v' w3, w3.ownsRow B 3 1 v' ((od ++ nw).length + 1) ((od ++ nw).map vn ++ [.int .i64 (b : Int)]) → w'.grownBy w3 ov'.ownBlock → Q (.returned (.tuple #[])) (w3.setCell ⟨K, 2, none⟩ v')) := fun w' hw v' w3 o3 g3 => by
        have := hw.put o3 g3
        rw [List.append_assoc] at this
        rw [← hQ'.out]
        exact ⟨rfl, _, _, _, _, this, hF.out⟩
      clear hV IH
      go_wp2_with (at_builtin; refine wpList_append_own _ rfl _ _ 30 rfl B 3 i0 (.int .i64 0) 1 8 Try.underlying30 hi hz0 hz1 hz2 rfl (by decide) ov' _ _ rfl (hA _).own ⟨wq.heap.size, 0, none⟩ 1 1 [.int .i64 (b : Int)] rfl rfl (new_onei _ _) (by simp [Value.oneCell']) (by unfold maxLen; omega) (by omega) (hA _).bs ?_; intro v3 w3 o3 g3 _; obtain ⟨t1, t2⟩ := (hA _).kept g3; obtain ⟨a9, m9, c9, rfl⟩ := own_shape o3; have HB := HA.out _ (hA _) _ _ o3 g3)
      refine bodyPost_end (results_none rfl _ _ _) rfl ?_
      exact HB
end Go.Proofs.Ythammngddmkhhaa
