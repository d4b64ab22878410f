/- One round over all edges: what is nearest is moved up where an edge leads past it. -/
import Derived.Test.YthammngddmkhhaaZ7
namespace Go.Proofs.Ythammngddmkhhaa
open Go.RowKit

theorem sum_le {α : Type} {f g : α → Nat} : ∀ (l : List α), (∀ x ∈ l, f x ≤ g x) → (l.map f).sum ≤ (l.map g).sum
  | [], _ => Nat.le_refl _
  | a :: r, h => by
    rw [List.map_cons, List.map_cons, List.sum_cons, List.sum_cons]
    have := sum_le r (fun x hx => h x (List.mem_cons_of_mem _ hx))
    have := h a (List.mem_cons_self ..)
    omega
theorem sum_lt {α : Type} {f g : α → Nat} : ∀ (l : List α), (∀ x ∈ l, f x ≤ g x) → ∀ y ∈ l, f y < g y → (l.map f).sum < (l.map g).sum
  | [], _, y, hy, _ => by cases hy
  | a :: r, h, y, hy, hl => by
    rw [List.map_cons, List.map_cons, List.sum_cons, List.sum_cons]
    have h1 := sum_le r (fun x hx => h x (List.mem_cons_of_mem _ hx))
    have h2 := h a (List.mem_cons_self ..)
    rcases List.mem_cons.1 hy with e | e
    · subst e; omega
    · have := sum_lt r (fun x hx => h x (List.mem_cons_of_mem _ hx)) y e hl
      omega
theorem bxcell {w w' : World} {g o : Nat} {u : Value} (h : w.cell? ⟨g, o, none⟩ = some u) (hg : g < w.heap.size) (l : Later w w') : w'.cell? ⟨g, o, none⟩ = some u := by rw [Below.cell l (p := ⟨g, o, none⟩) hg]; exact h
/-- How high all are. -/
def msr (n : Nat) (rk : List Nat) (ne : List Int) : Nat := ((List.range n).map (fun i => rf rk (pf ne i))).sum
theorem pf_set {ne : List Int} {e u : Nat} (he : e < ne.length) : pf (ne.set e (u : Int)) = upd (pf ne) e u := by
  funext i
  unfold pf upd
  rw [ng_set he]
  unfold setI
  by_cases q : i = e
  · rw [if_pos q, if_pos q, Int.toNat_natCast]
  · rw [if_neg q, if_neg q]
theorem NInv.move {E : Nat → Nat → Prop} {n : Nat} {rk : List Nat} {ne : List Int} (h : NInv E n rk ne) (hl : ne.length = n) {b e u : Nat} (hb : Rd E b) (he : E b e) (hz : e ≠ 0) (hu : Rd E u) (ha : An (pf ne) u (pf ne e)) (hne : u ≠ pf ne e) (hm : ∀ d, Dm E d (pf ne e) → Dm E d b → Dm E d u) : NInv E n rk (ne.set e (u : Int)) ∧ msr n rk (ne.set e (u : Int)) < msr n rk ne := by
  have hre := hb.step he
  have hel := h.lt e hre
  have hpe := (h.tree.par e hre hz).1
  have hrk := (h.tree.an_rk ha hpe).2
  have hlt : rf rk u < rf rk (pf ne e) := by
    rcases Nat.lt_or_ge (rf rk u) (rf rk (pf ne e)) with q | q
    · exact q
    · exact absurd (h.tree.inj u (pf ne e) hu hpe (by omega)) hne
  refine ⟨⟨by rw [pf_set (by omega)]; exact h.tree.upd hb he hu hrk hm, fun i hi hiz => ?_, fun i hi hn => ?_, h.lt⟩, ?_⟩
  · rw [pf_set (by omega), ng_set (by omega)]
    unfold setI upd
    by_cases q : i = e
    · rw [if_pos q, if_pos q]
    · rw [if_neg q, if_neg q]; exact h.yes i hi hiz
  · rw [ng_set (by omega)]
    unfold setI
    rw [if_neg (fun q => hn (by rw [q]; exact ⟨hre, hz⟩))]
    exact h.no i hi hn
  · unfold msr
    rw [pf_set (by omega)]
    refine sum_lt _ (fun x _ => ?_) e (List.mem_range.2 hel) ?_
    · unfold upd
      by_cases q : x = e
      · rw [if_pos q, q]; exact hrk
      · rw [if_neg q]; exact Nat.le_refl _
    · unfold upd
      rw [if_pos rfl]
      exact hlt
/-- What a round leaves: nothing was moved, and no edge leads past what is nearest; or something was, and all are less high. -/
def NarP (x : Fc) (W : World) (B K gs gr gn : Nat) (bv ov : Value) (n : Nat) (sn : List Bool) (od rk : List Nat) (ne : List Int) (e : Ending) (w' : World) : Prop := ∃ (mv : Bool) (ne' : List Int), e = .returned (.bool mv) ∧ Wf W w' B K gs gr gn bv ov n sn od rk ne' ∧ NInv x.E n rk ne' ∧ (mv = true → msr n rk ne' < msr n rk ne) ∧ (mv = false → ne' = ne ∧ ∀ a b, Rd x.E a → x.E a b → b ≠ 0 → An (pf ne) (pf ne b) a)
/-- A round under way: D tells which edges were looked at. -/
structure Nar (x : Fc) (n : Nat) (rk : List Nat) (ne ne' : List Int) (mv : Bool) (D : Nat → Nat → Prop) : Prop where
  inv : NInv x.E n rk ne'
  yes : mv = true → msr n rk ne' < msr n rk ne
  no : mv = false → ne' = ne ∧ ∀ a b, D a b → b ≠ 0 → An (pf ne) (pf ne b) a
theorem Nar.more {x : Fc} {n : Nat} {rk : List Nat} {ne ne' : List Int} {mv : Bool} {D D' : Nat → Nat → Prop} (h : Nar x n rk ne ne' mv D) (hd : ∀ a b, D' a b → b ≠ 0 → D a b ∨ An (pf ne') (pf ne' b) a) : Nar x n rk ne ne' mv D' := ⟨h.inv, h.yes, fun q => by
  obtain ⟨e, k⟩ := h.no q
  refine ⟨e, fun a b hab hb => ?_⟩
  rcases hd a b hab hb with r | r
  · exact k a b r hb
  · rw [e] at r; exact r⟩
theorem Nar.moved {x : Fc} {n : Nat} {rk : List Nat} {ne ne' ne2 : List Int} {mv : Bool} {D D' : Nat → Nat → Prop} (h : Nar x n rk ne ne' mv D) (h2 : NInv x.E n rk ne2) (hlt : msr n rk ne2 < msr n rk ne') : Nar x n rk ne ne2 true D' := ⟨h2, fun _ => by
  cases mv with
  | true => have := h.yes rfl; omega
  | false => obtain ⟨e, _⟩ := h.no rfl; rw [e] at hlt; exact hlt, fun q => by cases q⟩
set_option maxRecDepth 20000 in
set_option maxHeartbeats 2000000 in
theorem narrow_any (x : Fc) (W w : World) (B K gs gr gn : Nat) (a : Option Addr) (cap n : Nat) (hx : x.lead) (hb : RdL W 5 (.slice a n cap) (Bl.dats x.blocks)) (hnb : n = x.blocks.length) (hn : n ≤ 400) (go co L : Nat) (sn : List Bool) (od rk : List Nat) (ne : List Int)
    (hW : Wf W w B K gs gr gn (.slice a n cap) (.slice (some ⟨go, 0, none⟩) L co) n sn od rk ne) (hI : NInv x.E n rk ne) (hod : ∀ i, i ∈ od ↔ Rd x.E i) (hL : Hid (L = od.length)) (hol : L ≤ 400) :
    Calls Try.prog 26 #[.pointer (some ⟨K, 0, none⟩)] w (NarP x W B K gs gr gn (.slice a n cap) (.slice (some ⟨go, 0, none⟩) L co) n sn od rk ne) := by
  have hni : (n : Int) ≤ 400 := by omega
  have HNB : Hid (n = x.blocks.length) := hnb
  clear hnb
  have HF : Hid (∀ mv ne' w', Wf W w' B K gs gr gn (.slice a n cap) (.slice (some ⟨go, 0, none⟩) L co) n sn od rk ne' → Nar x n rk ne ne' mv (fun a b => ∃ r, ∃ (hr : r < od.length), r < L ∧ od[r] = a ∧ x.E a b) → NarP x W B K gs gr gn (.slice a n cap) (.slice (some ⟨go, 0, none⟩) L co) n sn od rk ne (.returned (.bool mv)) w') := fun mv ne' w' h1 h2 => ⟨mv, ne', rfl, h1, h2.inv, h2.yes, fun q => by
    obtain ⟨e, k⟩ := h2.no q
    refine ⟨e, fun a b ha hab hb => k a b ?_ hb⟩
    obtain ⟨r, hr, e⟩ := List.getElem_of_mem ((hod a).2 ha)
    exact ⟨r, hr, by have := hL.out; omega, e, hab⟩⟩
  obtain ⟨y0, y1, y2, y3, y4, y5⟩ := hW.cells
  have hN0 : Hid (Nar x n rk ne ne false (fun a b => ∃ r, ∃ (hr : r < od.length), r < 0 ∧ od[r] = a ∧ x.E a b)) := ⟨hI, fun q => (by cases q), fun _ => ⟨rfl, fun a b h => by obtain ⟨_, _, h, _⟩ := h; exact absurd h (Nat.not_lt_zero _)⟩⟩
  have hLi : (L : Int) ≤ 400 := by omega
  generalize hQ : NarP x W B K gs gr gn (.slice a n cap) (.slice (some ⟨go, 0, none⟩) L co) n sn od rk ne = Q at *
  clear hQ
  go_enter Try.func26, Try.ntmps26
  go_wp2_with fail
  go_loopw [3, 14] (fun mvv i wr => ∃ (j : Nat) (mv : Bool) (ne' : List Int), mvv = .bool mv ∧ i = .int .i64 (j : Int) ∧ j ≤ L ∧ Wf W wr B K gs gr gn (.slice a n cap) (.slice (some ⟨go, 0, none⟩) L co) n sn od rk ne' ∧ Hid (Nar x n rk ne ne' mv (fun a b => ∃ r, ∃ (hr : r < od.length), r < j ∧ od[r] = a ∧ x.E a b))) (fun _ i _ => L - (intOf i).toNat)
  case atStart => exact ⟨0, false, ne, rfl, rfl, Nat.zero_le _, hW, hN0⟩
  case round =>
    obtain ⟨j, mv, ne', rfl, rfl, hj, hR, hV⟩ := hrel
    generalize wr = wo at *
    clear hW hN0 y0 y1 y2 y3 y4 y5
    obtain ⟨y0, y1, y2, y3, y4, y5⟩ := hR.cells
    by_cases hlt : j < L
    · have hjo : j < od.length := by have := hL.out; omega
      obtain ⟨q1, _⟩ := hR.odCell j hjo
      obtain ⟨b, hbv⟩ := hid_ex2 (od.getD j 0)
      have hbo : Hid (od[j] = b) := by
        have := hbv.out
        rw [List.getD_eq_getElem?_getD, List.getElem?_eq_getElem hjo] at this
        exact this.symm
      rw [← hbv.out] at q1
      have hbr : Rd x.E b := (hod b).1 (by rw [← hbo.out]; exact List.getElem_mem hjo)
      have hbn : b < n := hI.lt b hbr
      have hbl : b < x.blocks.length := by have := HNB.out; omega
      have ib : (b : Int) < (n : Int) := by omega
      have ij : (j : Int) < (L : Int) := by omega
      obtain ⟨g, off, v0, v1, v2, v3, e1, hg, _, _, _, _, c4, _, _, _, r3⟩ := Bl.elem hb b hbl
      subst e1
      obtain ⟨a3, p3, rfl, hl3⟩ := Ed.slice r3
      have c4 : wo.cell? ⟨g, off + b * 5 + 4, none⟩ = some (.slice a3 x.blocks[b].out.length p3) := by rw [Below.cell hR.lat (p := ⟨g, off + b * 5 + 4, none⟩) hg]; exact c4
      have hV0 : Hid (Nar x n rk ne ne' mv (fun a c => (∃ r, ∃ (hr : r < od.length), r < j ∧ od[r] = a ∧ x.E a c) ∨ (a = b ∧ ∃ q, ∃ (hq : q < x.blocks[b].out.length), q < 0 ∧ x.blocks[b].out[q].to = (c : Int)))) := hV.out.more (fun a c h _ => .inl (h.elim id (fun q => by obtain ⟨_, _, _, h, _⟩ := q; exact absurd h (Nat.not_lt_zero _))))
      clear hV
      go_wp2_with fail
      go_loopw [3, 27] (fun mvv i wr => ∃ (k : Nat) (mv : Bool) (ne2 : List Int), mvv = .bool mv ∧ i = .int .i64 (k : Int) ∧ k ≤ x.blocks[b].out.length ∧ Wf W wr B K gs gr gn (.slice (some ⟨g, off, none⟩) n cap) (.slice (some ⟨go, 0, none⟩) L co) n sn od rk ne2 ∧ Hid (Nar x n rk ne ne2 mv (fun a c => (∃ r, ∃ (hr : r < od.length), r < j ∧ od[r] = a ∧ x.E a c) ∨ (a = b ∧ ∃ q, ∃ (hq : q < x.blocks[b].out.length), q < k ∧ x.blocks[b].out[q].to = (c : Int))))) (fun _ i _ => x.blocks[b].out.length - (intOf i).toNat)
      case atStart => exact ⟨0, mv, ne', rfl, rfl, Nat.zero_le _, hR, hV0⟩
      case round =>
        obtain ⟨k, mv2, ne2, rfl, rfl, hk, hS, hU⟩ := hrel
        generalize wr = wi at *
        clear hR hV0 y0 y1 y2 y3 y4 y5 c4 q1
        obtain ⟨y0, y1, y2, y3, y4, y5⟩ := hS.cells
        by_cases hlt2 : k < x.blocks[b].out.length
        · obtain ⟨g', off', u0, e', hg', d0, d1, s0⟩ := Ed.elem (RdL.later hS.lat r3) k hlt2
          obtain ⟨b0, z0, rfl, _⟩ := In.slice s0
          subst e'
          have i2 : (k : Int) < (x.blocks[b].out.length : Int) := by omega
          obtain ⟨t, ht⟩ : ∃ t : Nat, Hid (x.blocks[b].out[k].to = (t : Int)) := by
            have := hx b hbl _ (List.getElem_mem hlt2)
            exact ⟨(x.blocks[b].out[k].to).toNat, show _ = _ by omega⟩
          have htn : t < n := by
            have := hx b hbl _ (List.getElem_mem hlt2)
            rw [ht.out] at this
            have := HNB.out
            omega
          have hE : x.E b t := ⟨hbl, _, List.getElem_mem hlt2, ht.out⟩
          rw [ht.out] at d0
          have hti : (t : Int) < (n : Int) := by omega
          have lK := hS.box.lt
          have lN := hS.xn.lt
          have hstep : ∀ (mv' : Bool) (ne3 : List Int), Nar x n rk ne ne3 mv' (fun a c => ((∃ r, ∃ (hr : r < od.length), r < j ∧ od[r] = a ∧ x.E a c) ∨ (a = b ∧ ∃ q, ∃ (hq : q < x.blocks[b].out.length), q < k ∧ x.blocks[b].out[q].to = (c : Int))) ∨ (a = b ∧ c = t)) → Hid (Nar x n rk ne ne3 mv' (fun a c => (∃ r, ∃ (hr : r < od.length), r < j ∧ od[r] = a ∧ x.E a c) ∨ (a = b ∧ ∃ q, ∃ (hq : q < x.blocks[b].out.length), q < k + 1 ∧ x.blocks[b].out[q].to = (c : Int)))) := fun mv' ne3 h => h.more (fun a c hac _ => .inl (by
            rcases hac with hac | ⟨ea, q, hq, hqk, e⟩
            · exact .inl (.inl hac)
            · rcases Nat.lt_or_ge q k with z | z
              · exact .inl (.inr ⟨ea, q, hq, z, e⟩)
              · obtain rfl : q = k := by omega
                rw [ht.out] at e
                exact .inr ⟨ea, by omega⟩))
          by_cases ht0 : t = 0
          · subst ht0
            have hU2 := hstep _ _ (hU.out.more (fun a c hac hc => .inl (hac.elim id (fun q => absurd q.2 hc))))
            have hS2 : Hid (∀ o, Wf W (wi.alloc o) B K gs gr gn (.slice (some ⟨g, off, none⟩) n cap) (.slice (some ⟨go, 0, none⟩) L co) n sn od rk ne2) := fun o => hS.later (later1 wi o)
            clear hstep hU hS
            go_wp2_with fail
            go_roundw
            case rel => exact ⟨k + 1, mv2, ne2, rfl, by go_num, by omega, hS2.out _, hU2⟩
            case measure => simp [intOf]; omega
          · have it0 : ((t : Int) == 0) = false := by simp; omega
            have it1 : ¬ (t : Int) = 0 := by omega
            have it2 : (0 : Int) ≤ (t : Int) := by omega
            have htr := hbr.step hE
            have hIn := hU.out.inv
            have hnt := hIn.yes t htr ht0
            obtain ⟨hnc, hnf⟩ := hS.xn.at_ t (by rw [hS.nl]; exact htn)
            have hnc : wi.cell? ⟨gn, t, none⟩ = some (.int .i64 ((pf ne2 t : Nat) : Int)) := by rw [hnc, ← hnt]; rfl
            have hpr := (hIn.tree.par t htr ht0).1
            have hM := fun w' (l : Later wi w') => meet_any (hS.later l) hn hIn (pf ne2 t) b hpr hbr
            have hnl := hS.nl
            have HD : Hid (∀ u : Nat, u = pf ne2 t → An (pf ne2) u b → Nar x n rk ne ne2 mv2 (fun a c => (∃ r, ∃ (hr : r < od.length), r < j ∧ od[r] = a ∧ x.E a c) ∨ (a = b ∧ ∃ q, ∃ (hq : q < x.blocks[b].out.length), q < k + 1 ∧ x.blocks[b].out[q].to = (c : Int)))) := fun u hu han => (hstep _ _ (hU.out.more (fun a c hac _ => by
              rcases hac with hac | ⟨rfl, rfl⟩
              · exact .inl hac
              · exact .inr (by rw [← hu]; exact han)))).out
            have HMv : Hid (∀ u : Nat, Rd x.E u → u ≠ pf ne2 t → An (pf ne2) u (pf ne2 t) → (∀ d, Dm x.E d (pf ne2 t) → Dm x.E d b → Dm x.E d u) → Nar x n rk ne (ne2.set t (u : Int)) true (fun a c => (∃ r, ∃ (hr : r < od.length), r < j ∧ od[r] = a ∧ x.E a c) ∨ (a = b ∧ ∃ q, ∃ (hq : q < x.blocks[b].out.length), q < k + 1 ∧ x.blocks[b].out[q].to = (c : Int)))) := fun u hu hne ha hd => by
              obtain ⟨h1, h2⟩ := hIn.move hnl hbr hE ht0 hu ha hne hd
              exact hU.out.moved h1 h2
            have HS1 : Hid (∀ w', Later wi w' → Wf W w' B K gs gr gn (.slice (some ⟨g, off, none⟩) n cap) (.slice (some ⟨go, 0, none⟩) L co) n sn od rk ne2) := fun w' l => hS.later l
            have HS2 : Hid (∀ w' (u : Nat), Later wi w' → Wf W (w'.setCell ⟨gn, t, none⟩ (.int .i64 (u : Int))) B K gs gr gn (.slice (some ⟨g, off, none⟩) n cap) (.slice (some ⟨go, 0, none⟩) L co) n sn od rk (ne2.set t (u : Int))) := fun w' u l => (hS.later l).setNe t htn (u : Int)
            obtain ⟨Z, hZ⟩ := hid_ex2 (pf ne2 t)
            rw [← hZ.out] at hnc hM HD HMv
            obtain ⟨A0, hA0⟩ := hid_ex2 x.blocks[b].out[k].args.length
            rw [← hA0.out] at d1
            have HS : Hid (∀ w', Later (wi.alloc (.cells #[.int .i64 (t : Int), .slice b0 A0 z0] 79)) w' → (Later (wi.alloc (.cells #[.int .i64 (t : Int), .slice b0 A0 z0] 79)) w' ∧ w'.cell? ⟨K, 4, none⟩ = some (.slice (some ⟨gn, 0, none⟩) n n) ∧ w'.cell? ⟨wi.heap.size, 0, none⟩ = some (.int .i64 (t : Int)) ∧ w'.cell? ⟨gn, t, none⟩ = some (.int .i64 (Z : Int)))) := fun w' l => ⟨l, bxcell y4 lK ((later1 _ _).trans l), by rw [Below.cell l (p := ⟨wi.heap.size, 0, none⟩) (by simp)]; simp, bxcell hnc lN ((later1 _ _).trans l)⟩
            clear hstep hU hS hnt hIn
            go_wp2_with fail
            go_region_held3 (fun w' => Later (wi.alloc (.cells #[.int .i64 (t : Int), .slice b0 A0 z0] 79)) w' ∧ w'.cell? ⟨K, 4, none⟩ = some (.slice (some ⟨gn, 0, none⟩) n n) ∧ w'.cell? ⟨wi.heap.size, 0, none⟩ = some (.int .i64 (t : Int)) ∧ w'.cell? ⟨gn, t, none⟩ = some (.int .i64 (Z : Int))) (first | exact HS.out _ (Later.drew _) | exact HS.out _ ((Later.drew _).trans l5)) ((go_at_call 40; refine (hM _ ((later1 _ _).trans (Later.drew _))).mono ?_; rintro e w5 ⟨u, m5, rfl, hu1, hu2, hu3, hu4, hw5⟩; have l5 : Later (wi.alloc (.cells #[.int .i64 (t : Int), .slice b0 A0 z0] 79)).drew w5 := (by rw [hw5]; exact later_drewN (Later.refl _) _); clear hw5))
            all_goals
              have l6 := (Later.drew (wi.alloc (.cells #[.int .i64 (t : Int), .slice b0 A0 z0] 79))).trans l5
              obtain ⟨_, x4, x0, xn⟩ := HS.out _ l6
              have l7 := (later1 _ _).trans l6
              have xf := ((HS1.out _ l7).xn.at_ t (by rw [hnl]; exact htn)).2
              clear HS hM
              by_cases huz : u = Z
              · subst huz
                have hne : ((u : Int) != (u : Int)) = false := by simp
                have hU2 : Hid _ := HD.out u rfl hu3
                have hW2 : Hid (∀ m, Wf W (w5.drewN m) B K gs gr gn (.slice (some ⟨g, off, none⟩) n cap) (.slice (some ⟨go, 0, none⟩) L co) n sn od rk ne2) := fun m => HS1.out _ (later_drewN l7 m)
                clear HD HMv HS1 HS2
                go_wp2_with fail
                go_quiet (fail)
                go_wp2_with fail
                go_roundw
                case rel => exact ⟨k + 1, mv2, ne2, rfl, by go_num, by omega, hW2.out _, hU2⟩
                case measure => simp [intOf]; omega
              · have hne : ((u : Int) != (Z : Int)) = true := by simp; omega
                have hU2 : Hid _ := HMv.out u hu1 huz hu2 hu4
                have hW2 : Hid (∀ m, Wf W ((w5.drewN m).setCell ⟨gn, t, none⟩ (.int .i64 (u : Int))) B K gs gr gn (.slice (some ⟨g, off, none⟩) n cap) (.slice (some ⟨go, 0, none⟩) L co) n sn od rk (ne2.set t (u : Int))) := fun m => HS2.out _ u (later_drewN l7 m)
                clear HD HMv HS1 HS2
                go_wp2_with fail
                go_quiet (fail)
                go_wp2_with fail
                go_region
                all_goals
                  go_wp2_with fail
                  go_roundw
                  case rel => exact ⟨k + 1, true, _, rfl, by go_num, by omega, hW2.out _, hU2⟩
                  case measure => simp [intOf]; omega
        · have i2 : ¬ (k : Int) < (x.blocks[b].out.length : Int) := by omega
          have hke : k = x.blocks[b].out.length := by omega
          have hV2 : Hid (Nar x n rk ne ne2 mv2 (fun a c => ∃ r, ∃ (hr : r < od.length), r < j + 1 ∧ od[r] = a ∧ x.E a c)) := hU.out.more (fun a c hac _ => by
            obtain ⟨r, hr, hrj, e, hE⟩ := hac
            rcases Nat.lt_or_ge r j with z | z
            · exact .inl (.inl ⟨r, hr, z, e, hE⟩)
            · obtain rfl : r = j := by omega
              rw [hbo.out] at e
              subst e
              obtain ⟨_, d, hd, ed⟩ := hE
              obtain ⟨q, hq, rfl⟩ := List.getElem_of_mem hd
              exact .inl (.inr ⟨rfl, q, hq, by omega, ed⟩))
          clear hU
          go_wp2_with fail
          go_roundw
          case rel => exact ⟨j + 1, mv2, ne2, rfl, by go_num, by omega, hS, hV2⟩
          case measure => simp [intOf]; omega
    · have ij : ¬ (j : Int) < (L : Int) := by omega
      have HA := HF.out mv ne' wo hR (hV.out.more (fun a b h _ => .inl (by
        obtain ⟨r, hr, _, e, hE⟩ := h
        exact ⟨r, hr, by have := hL.out; omega, e, hE⟩)))
      clear hV HF
      go_wp2_with fail
      exact HA
end Go.Proofs.Ythammngddmkhhaa
