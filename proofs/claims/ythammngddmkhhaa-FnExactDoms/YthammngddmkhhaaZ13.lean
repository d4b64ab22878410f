/- By the model: which is nearest. -/
import Derived.Test.YthammngddmkhhaaZ12
namespace Go.Proofs.Ythammngddmkhhaa
open Go.RowKit

theorem new_one (w : World) (v : Value) (t : TypeId) : ∀ j u, [v][j]? = some u → (w.alloc (.cells #[v] t)).cell? ((⟨w.heap.size, 0, none⟩ : Addr).add j) = some u := by
  intro j u h
  match j with
  | 0 =>
    have : v = u := by simpa using h
    rw [← this]
    simp [Addr.add]
  | j + 1 => simp at h
theorem Try.info57 : (Try.prog.info? 57).map (fun i => (i.zero, i.size, i.bytes)) = some (some (.slice none 0 0), 1, 24) := by kernel_rfl
/-- Counted so far. -/
def Cn (al : List Bool) (cs : List (List Bool)) (n b d : Nat) (zc : List Int) : Prop := ∀ i, i < n → zc.getD i 0 = if i < b then ((cnt al cs n i : Nat) : Int) else if i = b then ((cnt al cs d i : Nat) : Int) else 0
theorem Cn.start (al : List Bool) (cs : List (List Bool)) (n : Nat) : Cn al cs n 0 0 (List.replicate n 0) := fun i hi => by
  rw [List.getD_eq_getElem?_getD, List.getElem?_replicate, if_pos hi, if_neg (Nat.not_lt_zero _)]
  split
  · rfl
  · rfl
theorem Cn.skip {al : List Bool} {cs : List (List Bool)} {n b d : Nat} {zc : List Int} (h : Cn al cs n b d zc) (hc : cb al cs b d = false) : Cn al cs n b (d + 1) zc := fun i hi => by
  rw [h i hi]
  by_cases q : i < b
  · rw [if_pos q, if_pos q]
  · rw [if_neg q, if_neg q]
    by_cases r : i = b
    · subst r
      rw [if_pos rfl, if_pos rfl, cnt_succ, hc]
      simp
    · rw [if_neg r, if_neg r]
theorem Cn.add {al : List Bool} {cs : List (List Bool)} {n b d : Nat} {zc : List Int} (h : Cn al cs n b d zc) (hl : zc.length = n) (hb : b < n) (hc : cb al cs b d = true) : Cn al cs n b (d + 1) (zc.set b (zc.getD b 0 + 1)) := fun i hi => by
  rw [getD_set _ _ _ _ _ (by omega)]
  by_cases r : i = b
  · subst r
    rw [if_pos rfl, if_neg (Nat.lt_irrefl _), if_pos rfl, h i hi, if_neg (Nat.lt_irrefl _), if_pos rfl, cnt_succ, if_pos hc]
    omega
  · rw [if_neg r, h i hi]
    by_cases q : i < b
    · rw [if_pos q, if_pos q]
    · rw [if_neg q, if_neg q, if_neg r, if_neg r]
theorem Cn.next {al : List Bool} {cs : List (List Bool)} {n b : Nat} {zc : List Int} (h : Cn al cs n b n zc) : Cn al cs n (b + 1) 0 zc := fun i hi => by
  rw [h i hi]
  by_cases q : i < b
  · rw [if_pos q, if_pos (by omega)]
  · rw [if_neg q]
    by_cases r : i = b
    · rw [if_pos r, if_pos (by omega)]
    · rw [if_neg r, if_neg (by omega)]
      by_cases s : i = b + 1
      · rw [if_pos s]; rfl
      · rw [if_neg s]
theorem Cn.at_ {al : List Bool} {cs : List (List Bool)} {n b d : Nat} {zc : List Int} (h : Cn al cs n b d zc) (hb : b < n) (hd : d ≤ n) : 0 ≤ zc.getD b 0 ∧ zc.getD b 0 ≤ n := by
  rw [h b hb, if_neg (Nat.lt_irrefl _), if_pos rfl]
  have := cnt_le al cs d b
  omega
/-- Found so far. -/
def Ou (al : List Bool) (cs : List (List Bool)) (n b d : Nat) (zo : List Int) : Prop := ∀ i, i < n → if i < b then BestP al cs n n i (zo.getD i 0) else if i = b then BestP al cs n d i (zo.getD i 0) else zo.getD i 0 = -1
theorem Ou.start (al : List Bool) (cs : List (List Bool)) (n : Nat) : Ou al cs n 0 0 (List.replicate n (-1)) := fun i hi => by
  have e : (List.replicate n (-1 : Int)).getD i 0 = -1 := ng_rep hi
  rw [if_neg (Nat.not_lt_zero _), e]
  split
  · exact BestP.start ..
  · rfl
theorem Ou.skip {al : List Bool} {cs : List (List Bool)} {n b d : Nat} {zo : List Int} (h : Ou al cs n b d zo) (hb : b < n) (hc : cb al cs b d = false ∨ (∃ e : Nat, zo.getD b 0 = (e : Int) ∧ cnt al cs n d ≤ cnt al cs n e)) : Ou al cs n b (d + 1) zo := fun i hi => by
  have := h i hi
  by_cases q : i < b
  · rw [if_pos q] at this ⊢; exact this
  · rw [if_neg q] at this ⊢
    by_cases r : i = b
    · subst r
      rw [if_pos rfl] at this ⊢
      exact this.skip hc
    · rw [if_neg r] at this ⊢; exact this
theorem Ou.take {al : List Bool} {cs : List (List Bool)} {n b d : Nat} {zo : List Int} (h : Ou al cs n b d zo) (hl : zo.length = n) (hb : b < n) (hc : cb al cs b d = true) (hg : zo.getD b 0 < 0 ∨ ∃ e : Nat, zo.getD b 0 = (e : Int) ∧ cnt al cs n e < cnt al cs n d) : Ou al cs n b (d + 1) (zo.set b (d : Int)) := fun i hi => by
  have := h i hi
  rw [getD_set _ _ _ _ _ (by omega)]
  by_cases r : i = b
  · subst r
    rw [if_neg (Nat.lt_irrefl _), if_pos rfl] at this ⊢
    rw [if_pos rfl]
    exact this.take hc hg
  · rw [if_neg r]
    by_cases q : i < b
    · rw [if_pos q] at this ⊢; exact this
    · rw [if_neg q, if_neg r] at this ⊢; exact this
theorem Ou.next {al : List Bool} {cs : List (List Bool)} {n b : Nat} {zo : List Int} (h : Ou al cs n b n zo) : Ou al cs n (b + 1) 0 zo := fun i hi => by
  have := h i hi
  by_cases q : i < b
  · rw [if_pos q] at this; rw [if_pos (by omega)]; exact this
  · rw [if_neg q] at this
    by_cases r : i = b
    · rw [if_pos r] at this; rw [if_pos (by omega)]; exact this
    · rw [if_neg r] at this
      rw [if_neg (by omega)]
      by_cases s : i = b + 1
      · rw [if_pos s, this]; exact BestP.start ..
      · rw [if_neg s]; exact this
theorem Ou.at_ {al : List Bool} {cs : List (List Bool)} {n b d : Nat} {zo : List Int} (h : Ou al cs n b d zo) (hb : b < n) (hd : d ≤ n) : zo.getD b 0 = -1 ∨ ∃ e : Nat, zo.getD b 0 = (e : Int) ∧ e < n := by
  have := h b hb
  rw [if_neg (Nat.lt_irrefl _), if_pos rfl] at this
  rcases this with ⟨q, _⟩ | ⟨e, he, q, _⟩
  · exact .inl q
  · exact .inr ⟨e, q, by omega⟩
def SDomsP (x : Fc) (n : Nat) (w : World) (e : Ending) (w' : World) : Prop := ∃ g zs al cs, e = .returned (.slice (some ⟨g, 0, none⟩) n n) ∧ Later w w' ∧ RI w' g zs ∧ w.heap.size ≤ g ∧ zs.length = n ∧ (∀ b, b < n → BestP al cs n n b (zs.getD b 0)) ∧ (∀ i, i < n → (sg al i = true ↔ Rd x.E i)) ∧ (∀ d i, d < n → i < n → (sg (cs.getD d []) i = true ↔ Rw x.E d i))
set_option maxRecDepth 20000 in
set_option maxHeartbeats 4000000 in
theorem sdoms_any (x : Fc) (a0 a1 : Option Addr) (n0 p0 n1 p1 : Nat) (zrk zrn : Int) (a : Option Addr) (n cap : Nat) (w : World) (hx : x.lead) (hnb : Hid (n = x.blocks.length)) (hn4 : n ≤ 400) (h : RdL w 5 (.slice a n cap) (Bl.dats x.blocks)) :
    Calls Try.prog 17 #[.agg #[.slice a0 n0 p0, .int .i64 zrk, .int .i64 zrn, .slice a1 n1 p1, .slice a n cap]] w (SDomsP x n w) := by
  obtain ⟨i0, hi, hz0, hz1, hz2⟩ := info_parts Try.info3
  obtain ⟨j0, ji, jz0, jz1, jz2⟩ := info_parts Try.info57
  have hni : (n : Int) ≤ 400 := by omega
  have L1 := later1 w (.cells #[.slice a0 n0 p0, .int .i64 zrk, .int .i64 zrn, .slice a1 n1 p1, .slice a n cap] 37)
  have hbox : Hid (∀ w', Later (w.alloc (.cells #[.slice a0 n0 p0, .int .i64 zrk, .int .i64 zrn, .slice a1 n1 p1, .slice a n cap] 37)) w' → w'.cell? ⟨w.heap.size, 0, none⟩ = some (.slice a0 n0 p0) ∧ w'.cell? ⟨w.heap.size, 1, none⟩ = some (.int .i64 zrk) ∧ w'.cell? ⟨w.heap.size, 2, none⟩ = some (.int .i64 zrn) ∧ w'.cell? ⟨w.heap.size, 3, none⟩ = some (.slice a1 n1 p1) ∧ w'.cell? ⟨w.heap.size, 4, none⟩ = some (.slice a n cap)) := fun w' l => ⟨bxcell (by simp) (by simp) l, bxcell (by simp) (by simp) l, bxcell (by simp) (by simp) l, bxcell (by simp) (by simp) l, bxcell (by simp) (by simp) l⟩
  have h1 := RdL.later L1 h
  have hs1 := L1.size
  have HF : Hid (∀ g zs al cs w', Later w w' → RI w' g zs → w.heap.size ≤ g → zs.length = n → (∀ b, b < n → BestP al cs n n b (zs.getD b 0)) → (∀ i, i < n → (sg al i = true ↔ Rd x.E i)) → (∀ d i, d < n → i < n → (sg (cs.getD d []) i = true ↔ Rw x.E d i)) → SDomsP x n w (.returned (.slice (some ⟨g, 0, none⟩) n n)) w') := fun g zs al cs w' q1 q2 q3 q4 q5 q6 q7 => ⟨g, zs, al, cs, rfl, q1, q2, q3, q4, q5, q6, q7⟩
  generalize hQ : SDomsP x n w = Q at *
  clear hQ h
  go_enter Try.func17, Try.ntmps17
  go_upto_region 1 with fail
  generalize w.alloc (.cells #[.slice a0 n0 p0, .int .i64 zrk, .int .i64 zrn, .slice a1 n1 p1, .slice a n cap] 37) = w1 at *
  obtain ⟨_, _, _, _, y4⟩ := hbox.out w1 (Later.refl _)
  go_upto_region 3 with (at_make; refine wpList_make_full _ rfl _ _ 30 rfl w1.heap.size 3 i0 (.int .i64 0) 1 Try.underlying30 hi hz0 hz1 .i64 .i64 _ _ n rfl rfl rfl rfl (by rw [hz2]; omega) (by unfold maxLen; omega) (Nat.le_refl _) ?_; intro w2 hown hgr)
  have l2 : Later w1 w2 := grown_later hgr
  have xo : RI w2 w1.heap.size (List.replicate n 0) := RX.made rfl hown
  have t1 : RT w2 w1.heap.size 3 := by
    rcases hown.2 with ⟨q, _⟩ | ⟨_, _, cur, q, _, hg, _⟩
    · cases q
    · cases q; exact ⟨cur, hg⟩
  clear hown hgr
  go_upto_region 4 with (at_make; refine wpList_make_full _ rfl _ _ 30 rfl w2.heap.size 3 i0 (.int .i64 0) 1 Try.underlying30 hi hz0 hz1 .i64 .i64 _ _ n rfl rfl rfl rfl (by rw [hz2]; omega) (by unfold maxLen; omega) (Nat.le_refl _) ?_; intro w3 hown hgr)
  have l3 : Later w2 w3 := grown_later hgr
  have xc : RI w3 w2.heap.size (List.replicate n 0) := RX.made rfl hown
  have t2 : RT w3 w2.heap.size 3 := by
    rcases hown.2 with ⟨q, _⟩ | ⟨_, _, cur, q, _, hg, _⟩
    · cases q
    · cases q; exact ⟨cur, hg⟩
  clear hown hgr y4
  have l13 := l2.trans l3
  obtain ⟨y0, y1, y2, y3, y4⟩ := hbox.out w3 l13
  go_wp2_with fail
  refine (reach_any x a0 a1 n0 p0 n1 p1 zrk zrn a n cap (-1) w3 hx hnb hn4 (RdL.later l13 h1)).mono ?_
  rintro e w4 ⟨ga, al, rfl, l4, xa, t3, hga, hal, hiff⟩
  have hAl : Hid (∀ i, i < n → (sg al i = true ↔ Rd x.E i)) := fun i hi => by
    rw [hiff i]
    refine ⟨fun q => Rc.mono (fun _ (z : False) => z.elim) q.2, fun q => ⟨hi, Rc.mono (fun y hy => ?_) q⟩⟩
    have : (y : Int) = -1 := hy
    omega
  have l24 := l3.trans l4
  have hD0 : Ds w1 w4 w1.heap.size w2.heap.size ga n (List.replicate n 0) (List.replicate n 0) al (.slice none 0 0) [] [] := ⟨l13.trans l4, xo.later l24, t1.later l24, xc.later l4, t2.later l4, xa, t3, ⟨rfl, .inl ⟨rfl, rfl⟩⟩, fun r hr => absurd hr (Nat.not_lt_zero _), rfl, List.length_replicate .., List.length_replicate .., hal, ⟨Nat.le_refl _, l2.size⟩, by have := xo.lt; omega⟩
  generalize w2.heap.size = gc at *
  obtain ⟨go, hgo⟩ := hid_ex2 w1.heap.size
  have hgo1 : w.heap.size ≤ go := by rw [hgo.out]; exact hs1
  rw [← hgo.out] at hD0 ⊢
  clear y0 y1 y2 y3 y4 xo t1 xc t2 xa t3 hiff l2 l3 l4 l24 l13 hal
  go_wp2_with fail
  go_loopw [7, 8] (fun cv i wr => ∃ (j : Nat) (hs : List Nat) (cs : List (List Bool)), i = .int .i64 (j : Int) ∧ j ≤ n ∧ Ds w1 wr go gc ga n (List.replicate j (-1) ++ List.replicate (n - j) 0) (List.replicate n 0) al cv hs cs ∧ Hid (hs.length = j ∧ ∀ d i, d < j → i < n → (sg (cs.getD d []) i = true ↔ Rw x.E d i))) (fun _ i _ => n - (intOf i).toNat)
  case atStart => exact ⟨0, [], [], rfl, Nat.zero_le _, hD0, ⟨rfl, fun d _ hd => absurd hd (Nat.not_lt_zero _)⟩⟩
  case round =>
    obtain ⟨j, hs, cs, rfl, hj, hD, hC⟩ := hrel
    generalize wr = wo at *
    clear hD0
    obtain ⟨cva, cvc, rfl⟩ := own_shape2 hD.own
    by_cases hlt : j < n
    · have ij : (j : Int) < (n : Int) := by omega
      obtain ⟨c1, f1⟩ := hD.xo.at_ j (by rw [hD.ol]; exact hlt)
      obtain ⟨Z, hZ⟩ := hid_ex2 ((List.replicate j (-1 : Int) ++ List.replicate (n - j) 0).getD j 0)
      rw [← hZ.out] at c1
      have hD2 := hD.setO j hlt (-1)
      rw [set_rep n j hlt] at hD2
      have lgo := hD.xo.lt
      go_upto_region 10 with fail
      generalize wo.setCell ⟨go, j, none⟩ (.int .i64 (-1)) = w5 at *
      clear hD c1 f1
      obtain ⟨y0, y1, y2, y3, y4⟩ := hbox.out w5 hD2.lat
      go_wp2_with fail
      refine (reach_any x a0 a1 n0 p0 n1 p1 zrk zrn a n cap (j : Int) w5 hx hnb hn4 (RdL.later hD2.lat h1)).mono ?_
      rintro e w6 ⟨h', c, rfl, l6, xh, th, _, hcl, hiff⟩
      have hA := (hD2.later l6).later (later1 w6 (.cells #[.slice (some ⟨h', 0, none⟩) n n] 57))
      have hC2 : Hid ((hs ++ [h']).length = j + 1 ∧ ∀ d i, d < j + 1 → i < n → (sg ((cs ++ [c]).getD d []) i = true ↔ Rw x.E d i)) := ⟨by rw [List.length_append, hC.out.1]; rfl, fun d i hd hi => by
        have hcsl : cs.length = j := by rw [hD2.cl, hC.out.1]
        rcases Nat.lt_or_ge d j with q | q
        · have e1 : (cs ++ [c]).getD d [] = cs.getD d [] := by rw [List.getD_eq_getElem?_getD, List.getD_eq_getElem?_getD, List.getElem?_append_left (by omega)]
          rw [e1]; exact hC.out.2 d i q hi
        · obtain rfl : d = j := by omega
          have e1 : (cs ++ [c]).getD d [] = c := by rw [List.getD_eq_getElem?_getD, List.getElem?_append_right (by omega), hcsl, Nat.sub_self]; rfl
          rw [e1, hiff i]
          refine ⟨fun q => Rc.mono (fun y (hy : y = d) => by rw [hy]) q.2, fun q => ⟨hi, Rc.mono (fun y hy => ?_) q⟩⟩
          have : (y : Int) = (d : Int) := hy
          show y = d
          omega⟩
      have hlen : hs.length ≤ 400 := by rw [hC.out.1]; omega
      have HP : Hid (∀ v' w', w'.ownsRow w1.heap.size 57 1 v' (hs.length + 1) (hs.map (sl n) ++ [.slice (some ⟨h', 0, none⟩) n n]) → (w6.alloc (.cells #[.slice (some ⟨h', 0, none⟩) n n] 57)).grownBy w' (Value.slice cva hs.length cvc).ownBlock → Ds w1 w' go gc ga n (List.replicate (j + 1) (-1) ++ List.replicate (n - (j + 1)) 0) (List.replicate n 0) al v' (hs ++ [h']) (cs ++ [c])) := fun v' w' o g => hA.put (xh.later (later1 _ _)) (th.later (later1 _ _)) hcl o g
      clear hC hD2 hiff
      go_wp2_with (at_builtin; refine wpList_append_own _ rfl _ _ 81 rfl w1.heap.size 57 j0 (.slice none 0 0) 1 24 Try.underlying81 ji jz0 jz1 jz2 rfl (by decide) (.slice cva hs.length cvc) _ _ rfl hA.own ⟨w6.heap.size, 0, none⟩ 1 1 [.slice (some ⟨h', 0, none⟩) n n] rfl rfl (new_one _ _ _) (by simp [Value.oneCell']) (by unfold maxLen; omega) (by omega) hA.lat.size ?_; intro v3 w7 o3 g3 _; obtain ⟨a9, m9, c9, rfl⟩ := own_shape o3; have hA2 := HP.out _ _ o3 g3)
      go_roundw
      case rel => exact ⟨j + 1, _, _, by go_num, by omega, hA2, hC2⟩
      case measure => simp [intOf]; omega
    · have ij : ¬ (j : Int) < (n : Int) := by omega
      obtain rfl : n = j := by omega
      rw [Nat.sub_self, List.replicate_zero, List.append_nil] at hD
      have hHl := hC.out.1
      have hCs : Hid (∀ d i, d < n → i < n → (sg (cs.getD d []) i = true ↔ Rw x.E d i)) := hC.out.2
      obtain ⟨M, hM⟩ := hid_ex2 hs.length
      have hMn : Hid (M = n) := by rw [hM.out]; exact hHl
      rw [← hM.out] at hD ⊢
      have hC0 : Hid (Cn al cs n 0 0 (List.replicate n 0)) := Cn.start al cs n
      clear hC hHl
      go_wp2_with fail
      clear ij hlt
      go_loopw [9] (fun i wr => ∃ (b : Nat) (zc : List Int), i = .int .i64 (b : Int) ∧ b ≤ n ∧ Ds w1 wr go gc ga n (List.replicate n (-1)) zc al (.slice cva M cvc) hs cs ∧ Hid (Cn al cs n b 0 zc)) (fun i _ => n - (intOf i).toNat)
      case atStart => exact ⟨0, _, rfl, Nat.zero_le _, hD, hC0⟩
      case round =>
        obtain ⟨b, zc, rfl, hb, hD1, hK⟩ := hrel
        generalize wr = wp at *
        clear hD hC0
        by_cases hbn : b < n
        · have ib : (b : Int) < (n : Int) := by omega
          go_wp2_with fail
          go_loopw [10] (fun i wr => ∃ (d : Nat) (zc : List Int), i = .int .i64 (d : Int) ∧ d ≤ n ∧ Ds w1 wr go gc ga n (List.replicate n (-1)) zc al (.slice cva M cvc) hs cs ∧ Hid (Cn al cs n b d zc)) (fun i _ => n - (intOf i).toNat)
          case atStart => exact ⟨0, zc, rfl, Nat.zero_le _, hD1, hK⟩
          case round =>
            obtain ⟨d, zc2, rfl, hd, hD2, hK2⟩ := hrel
            generalize wr = wq at *
            clear hD1 hK
            by_cases hdn : d < n
            · have idn : (d : Int) < (n : Int) := by omega
              have idM : (d : Int) < (M : Int) := by have := hMn.out; omega
              obtain ⟨c1, _⟩ := hD2.xa.at_ b (by rw [hD2.ll]; exact hbn)
              obtain ⟨A, hA⟩ := hid_ex2 (al.getD b false)
              rw [← hA.out] at c1
              have hA' : sg al b = A := hA.out.symm
              cases A with
              | false =>
                have hK3 : Hid (Cn al cs n b (d + 1) zc2) := hK2.out.skip (by unfold cb; rw [hA']; rfl)
                clear hK2
                go_wp2_with fail
                go_roundw
                case rel => exact ⟨d + 1, zc2, by go_num, by omega, hD2, hK3⟩
                case measure => simp [intOf]; omega
              | true =>
                by_cases hdb : d = b
                · have e3 : ((d : Int) != (b : Int)) = false := by simp; omega
                  have hK3 : Hid (Cn al cs n b (d + 1) zc2) := hK2.out.skip (by unfold cb; rw [decide_eq_true hdb]; simp)
                  clear hK2 hdb
                  go_wp2_with fail
                  go_roundw
                  case rel => exact ⟨d + 1, zc2, by go_num, by omega, hD2, hK3⟩
                  case measure => simp [intOf]; omega
                · have e3 : ((d : Int) != (b : Int)) = true := by simp; omega
                  have hdh : d < hs.length := by rw [← hM.out, hMn.out]; exact hdn
                  obtain ⟨g6, c6, e6, q6, _⟩ := hD2.row d hdh
                  rw [← hM.out] at e6
                  simp only [Value.slice.injEq, true_and] at e6
                  obtain ⟨rfl, rfl⟩ := e6
                  obtain ⟨xr, _, hcl⟩ := hD2.rows d hdh
                  obtain ⟨c7, _⟩ := xr.at_ b (by rw [hcl]; exact hbn)
                  obtain ⟨H, hH⟩ := hid_ex2 hs[d]
                  rw [← hH.out] at q6 c7
                  obtain ⟨C, hC⟩ := hid_ex2 ((cs.getD d []).getD b false)
                  rw [← hC.out] at c7
                  have hC' : sg (cs.getD d []) b = C := hC.out.symm
                  clear xr
                  cases C with
                  | true =>
                    have hK3 : Hid (Cn al cs n b (d + 1) zc2) := hK2.out.skip (by unfold cb; rw [hC']; simp)
                    clear hK2
                    go_wp2_with fail
                    go_roundw
                    case rel => exact ⟨d + 1, zc2, by go_num, by omega, hD2, hK3⟩
                    case measure => simp [intOf]; omega
                  | false =>
                    have hK3 : Hid (Cn al cs n b (d + 1) (zc2.set b (zc2.getD b 0 + 1))) := hK2.out.add hD2.kl hbn (by unfold cb; rw [hA', hC', decide_eq_false hdb]; rfl)
                    have hv := hK2.out.at_ hbn hd
                    obtain ⟨c8, f8⟩ := hD2.xc.at_ b (by rw [hD2.kl]; exact hbn)
                    have hD3 := hD2.setC b hbn (zc2.getD b 0 + 1)
                    obtain ⟨V, hV⟩ := hid_ex2 (zc2.getD b 0)
                    rw [← hV.out] at c8 hD3 hv hK3
                    have r1 : -9223372036854775808 ≤ V + 1 := by omega
                    have r2 : V + 1 ≤ 9223372036854775807 := by omega
                    clear hK2 hD2 hv
                    go_wp2_with fail
                    go_roundw
                    case rel => exact ⟨d + 1, _, by go_num, by omega, hD3, hK3⟩
                    case measure => simp [intOf]; omega
            · have idn : ¬ (d : Int) < (n : Int) := by omega
              have hK3 : Hid (Cn al cs n (b + 1) 0 zc2) := by
                obtain rfl : n = d := by omega
                exact hK2.out.next
              clear hK2
              go_wp2_with fail
              go_roundw
              case rel => exact ⟨b + 1, zc2, by go_num, by omega, hD2, hK3⟩
              case measure => simp [intOf]; omega
        · have ib : ¬ (b : Int) < (n : Int) := by omega
          have hK9 : Hid (∀ i, i < n → zc.getD i 0 = ((cnt al cs n i : Nat) : Int)) := fun i hi => by
            have := hK.out i hi
            rw [if_pos (by omega)] at this
            exact this
          have hO0 : Hid (Ou al cs n 0 0 (List.replicate n (-1))) := Ou.start al cs n
          clear hK
          go_wp2_with fail
          clear ib hbn hb
          go_loopw [11] (fun i wr => ∃ (b : Nat) (zo : List Int), i = .int .i64 (b : Int) ∧ b ≤ n ∧ Ds w1 wr go gc ga n zo zc al (.slice cva M cvc) hs cs ∧ Hid (Ou al cs n b 0 zo)) (fun i _ => n - (intOf i).toNat)
          case atStart => exact ⟨0, _, rfl, Nat.zero_le _, hD1, hO0⟩
          case round =>
            obtain ⟨b, zo, rfl, hb, hE1, hO⟩ := hrel
            generalize wr = wx at *
            clear hD1 hO0
            by_cases hbn : b < n
            · have ib : (b : Int) < (n : Int) := by omega
              go_wp2_with fail
              go_loopw [12] (fun i wr => ∃ (d : Nat) (zo : List Int), i = .int .i64 (d : Int) ∧ d ≤ n ∧ Ds w1 wr go gc ga n zo zc al (.slice cva M cvc) hs cs ∧ Hid (Ou al cs n b d zo)) (fun i _ => n - (intOf i).toNat)
              case atStart => exact ⟨0, zo, rfl, Nat.zero_le _, hE1, hO⟩
              case round =>
                obtain ⟨d, zo2, rfl, hd, hE2, hO2⟩ := hrel
                generalize wr = wy at *
                clear hE1 hO
                by_cases hdn : d < n
                · have idn : (d : Int) < (n : Int) := by omega
                  have idM : (d : Int) < (M : Int) := by have := hMn.out; omega
                  obtain ⟨c1, _⟩ := hE2.xa.at_ b (by rw [hE2.ll]; exact hbn)
                  obtain ⟨A, hA⟩ := hid_ex2 (al.getD b false)
                  rw [← hA.out] at c1
                  have hA' : sg al b = A := hA.out.symm
                  have HE : Hid (∀ m, Ds w1 (wy.drewN m) go gc ga n zo2 zc al (.slice cva M cvc) hs cs) := fun m => hE2.later (later_drewN (Later.refl _) m)
                  cases A with
                  | false =>
                    have hO3 : Hid (Ou al cs n b (d + 1) zo2) := hO2.out.skip hbn (.inl (by unfold cb; rw [hA']; rfl))
                    clear hO2 hE2
                    go_wp2_with fail
                    go_quiet (fail)
                    go_wp2_with fail
                    go_roundw
                    case rel => exact ⟨d + 1, zo2, by go_num, by omega, HE.out _, hO3⟩
                    case measure => simp [intOf]; omega
                  | true =>
                    by_cases hdb : d = b
                    · have e3 : ((d : Int) != (b : Int)) = false := by simp; omega
                      have hO3 : Hid (Ou al cs n b (d + 1) zo2) := hO2.out.skip hbn (.inl (by unfold cb; rw [decide_eq_true hdb]; simp))
                      clear hO2 hE2 hdb
                      go_wp2_with fail
                      go_quiet (fail)
                      go_wp2_with fail
                      go_roundw
                      case rel => exact ⟨d + 1, zo2, by go_num, by omega, HE.out _, hO3⟩
                      case measure => simp [intOf]; omega
                    · have e3 : ((d : Int) != (b : Int)) = true := by simp; omega
                      have hdh : d < hs.length := by rw [← hM.out, hMn.out]; exact hdn
                      obtain ⟨g6, c6, e6, q6, _⟩ := hE2.row d hdh
                      rw [← hM.out] at e6
                      simp only [Value.slice.injEq, true_and] at e6
                      obtain ⟨rfl, rfl⟩ := e6
                      obtain ⟨xr, _, hcl⟩ := hE2.rows d hdh
                      obtain ⟨c7, _⟩ := xr.at_ b (by rw [hcl]; exact hbn)
                      obtain ⟨H, hH⟩ := hid_ex2 hs[d]
                      rw [← hH.out] at q6 c7
                      obtain ⟨C, hC⟩ := hid_ex2 ((cs.getD d []).getD b false)
                      rw [← hC.out] at c7
                      have hC' : sg (cs.getD d []) b = C := hC.out.symm
                      clear xr
                      cases C with
                      | true =>
                        have hO3 : Hid (Ou al cs n b (d + 1) zo2) := hO2.out.skip hbn (.inl (by unfold cb; rw [hC']; simp))
                        clear hO2 hE2
                        go_wp2_with fail
                        go_quiet (fail)
                        go_wp2_with fail
                        go_roundw
                        case rel => exact ⟨d + 1, zo2, by go_num, by omega, HE.out _, hO3⟩
                        case measure => simp [intOf]; omega
                      | false =>
                        have hcb : cb al cs b d = true := by unfold cb; rw [hA', hC', decide_eq_false hdb]; rfl
                        have hat := hO2.out.at_ hbn hd
                        obtain ⟨c8, f8⟩ := hE2.xo.at_ b (by rw [hE2.ol]; exact hbn)
                        obtain ⟨c9, _⟩ := hE2.xc.at_ d (by rw [hE2.kl]; exact hdn)
                        rw [hK9.out d hdn] at c9
                        have HE2 : Hid (∀ m, Ds w1 ((wy.drewN m).setCell ⟨go, b, none⟩ (.int .i64 (d : Int))) go gc ga n (zo2.set b (d : Int)) zc al (.slice (some ⟨g6, 0, none⟩) M cvc) hs cs) := fun m => (hE2.later (later_drewN (Later.refl _) m)).setO b hbn (d : Int)
                        obtain ⟨V, hV⟩ := hid_ex2 (zo2.getD b 0)
                        rw [← hV.out] at c8 hat
                        obtain ⟨X, hX⟩ := hid_ex2 (cnt al cs n d)
                        rw [← hX.out] at c9
                        rcases hat with hat | ⟨e', hat, hen⟩
                        · have hO3 : Hid (Ou al cs n b (d + 1) (zo2.set b (d : Int))) := hO2.out.take hE2.ol hbn hcb (.inl (by rw [← hV.out, hat]; decide))
                          have i9 : V < 0 := by omega
                          clear hO2 hE2 hat hdb
                          go_wp2_with fail
                          go_quiet (fail)
                          go_wp2_with fail
                          go_roundw
                          case rel => exact ⟨d + 1, _, by go_num, by omega, HE2.out _, hO3⟩
                          case measure => simp [intOf]; omega
                        · have ie : (e' : Int) < (n : Int) := by omega
                          obtain ⟨c10, _⟩ := hE2.xc.at_ e' (by rw [hE2.kl]; exact hen)
                          rw [hK9.out e' hen] at c10
                          obtain ⟨Y, hY⟩ := hid_ex2 (cnt al cs n e')
                          rw [← hY.out] at c10
                          rw [hat] at c8
                          have i9 : ¬ (e' : Int) < 0 := by omega
                          by_cases hYX : Y < X
                          · have hO3 : Hid (Ou al cs n b (d + 1) (zo2.set b (d : Int))) := hO2.out.take hE2.ol hbn hcb (.inr ⟨e', by rw [← hV.out]; exact hat, by rw [← hX.out, ← hY.out]; exact hYX⟩)
                            have i10 : (Y : Int) < (X : Int) := by omega
                            clear hO2 hE2 hat hdb
                            go_wp2_with fail
                            go_quiet (fail)
                            go_wp2_with fail
                            go_roundw
                            case rel => exact ⟨d + 1, _, by go_num, by omega, HE2.out _, hO3⟩
                            case measure => simp [intOf]; omega
                          · have hO3 : Hid (Ou al cs n b (d + 1) zo2) := hO2.out.skip hbn (.inr ⟨e', by rw [← hV.out]; exact hat, by rw [← hX.out, ← hY.out]; omega⟩)
                            have i10 : ¬ (Y : Int) < (X : Int) := by omega
                            clear hO2 hE2 hat hdb HE2
                            go_wp2_with fail
                            go_quiet (fail)
                            go_wp2_with fail
                            go_roundw
                            case rel => exact ⟨d + 1, zo2, by go_num, by omega, HE.out _, hO3⟩
                            case measure => simp [intOf]; omega
                · have idn : ¬ (d : Int) < (n : Int) := by omega
                  have hO3 : Hid (Ou al cs n (b + 1) 0 zo2) := by
                    obtain rfl : n = d := by omega
                    exact hO2.out.next
                  clear hO2
                  go_wp2_with fail
                  go_roundw
                  case rel => exact ⟨b + 1, zo2, by go_num, by omega, hE2, hO3⟩
                  case measure => simp [intOf]; omega
            · have ib : ¬ (b : Int) < (n : Int) := by omega
              have HA := HF.out go zo al cs wx (L1.trans hE1.lat) hE1.xo hgo1 hE1.ol (fun i hi => by
                have := hO.out i hi
                rw [if_pos (by omega)] at this
                exact this) hAl.out hCs.out
              clear HF hO
              go_wp2_with fail
              exact HA
end Go.Proofs.Ythammngddmkhhaa
