/- impl's methods on a memory: clone, store; StoreWord. -/
import Derived.Test.YtfmfkfijlfeimaaDoorJ1
import Derived.Test.YtfmfkfijlfeimaaDoorM8
import Derived.Laws.CopyOwn
namespace Go.Proofs.YtfmfkfijlfeimaaDoor
open Go.RowKit

theorem own_full {w : World} {base g n : Nat} {xs : List Value} (h : w.ownsRow base 3 1 (.slice (some ⟨g, 0, none⟩) n n) n xs) : w.heap[g]? = some (.cells xs.toArray 3 (0, 0)) ∧ base ≤ g ∧ n ≤ maxLen ∧ xs.length = n := by
  obtain ⟨hl, ⟨h0, _⟩ | ⟨g', cap, cur, he, hb, hg, hn, hm, hsz, ht⟩⟩ := h
  · cases h0
  · cases he
    refine ⟨?_, hb, hm, by omega⟩
    rw [hg]
    have : cur.toList = xs := by rw [← ht, List.take_of_length_le (by simp; omega)]
    rw [← this]
theorem full_own {w : World} {base g n : Nat} {xs : List Value} (hg : w.heap[g]? = some (.cells xs.toArray 3 (0, 0))) (hb : base ≤ g) (hm : n ≤ maxLen) (hl : xs.length = n) : w.ownsRow base 3 1 (.slice (some ⟨g, 0, none⟩) n n) n xs :=
  ⟨by omega, .inr ⟨g, n, xs.toArray, rfl, hb, hg, Nat.le_refl _, hm, by simp; omega, by rw [List.take_of_length_le (by simp; omega)]⟩⟩
theorem splice_all {L cs : List Value} (h : L.length = cs.length) : splice L 0 cs = cs := by
  unfold splice
  rw [List.drop_eq_nil_of_le (by omega)]
  simp
theorem ints_one (zs : List Int) : ∀ v ∈ zs.map (Value.int .i64), v.oneCell' = true := by
  intro v hv
  obtain ⟨z, _, rfl⟩ := List.mem_map.1 hv
  rfl
theorem size1 : (Tryd.prog.info? 3).map (·.size) = some 1 := by kernel_rfl
theorem rd_src {w : World} {a : Option Addr} {len cap : Nat} {zs : List Int} (h : Rd w (.slice a len cap) zs) (hp : 0 < (zs.map (Value.int .i64)).length) : ∃ ad, a = some ad ∧ ∀ j v, (zs.map (Value.int .i64))[j]? = some v → w.cell? (ad.add j) = some v := by
  obtain ⟨a', cap', he, _, hc⟩ := h
  cases he
  obtain ⟨g, off, rfl, _, _⟩ := hc 0 (by simpa using hp)
  refine ⟨_, rfl, fun j v hv => ?_⟩
  rw [List.getElem?_map] at hv
  have hj : j < zs.length := by
    rcases Nat.lt_or_ge j zs.length with h | h
    · exact h
    · rw [List.getElem?_eq_none h] at hv; cases hv
  obtain ⟨g', off', e, _, hcell⟩ := hc j hj
  cases e
  rw [Addr.add_lit, hcell]
  rw [List.getElem?_eq_getElem hj] at hv
  rw [List.getD_eq_getElem?_getD, List.getElem?_eq_getElem hj]
  exact hv

/-- The builtin copy on slices of ints, dst in a row that is known whole. -/
theorem copy_run (w : World) (dp sp : Option Addr) (dLen dCap sLen sCap : Nat) (g off : Nat) (cur : List Value) (hg : w.heap[g]? = some (.cells cur.toArray 3 (0, 0))) (cs : List Value) (hn : cs.length = Nat.min sLen dLen)
    (hpos : 0 < cs.length → dp = some ⟨g, off, none⟩ ∧ ∃ ad, sp = some ad ∧ ∀ j v, cs[j]? = some v → w.cell? (ad.add j) = some v)
    (hfit : off + cs.length ≤ cur.length) (h1 : ∀ v ∈ cs, v.oneCell' = true) (B : Nat) (w0 : World) (hb : Below B w0 w) (hBg : B ≤ g) :
    ∃ w', (Builtin.copy_ #[23, 23] 3 #[.slice dp dLen dCap, .slice sp sLen sCap]).run Tryd.prog w = .ok (goInt cs.length) w' ∧ w'.heap[g]? = some (.cells (splice cur off cs).toArray 3 (0, 0)) ∧ Below B w0 w' ∧ w.grownBy w' (some g) := by
  by_cases h0 : cs.length = 0
  · obtain rfl : cs = [] := List.eq_nil_of_length_eq_zero h0
    exact ⟨w, run_copy_none (P := Tryd.prog) w 23 23 3 3 dp sp dLen dCap sLen sCap Tryd.underlying23 size1 (by simpa using hn.symm), by simpa [splice] using hg, hb, World.grownBy.refl _ _⟩
  · obtain ⟨rfl, ad, rfl, hsrc⟩ := hpos (by omega)
    exact ⟨_, run_copy_row (P := Tryd.prog) w 23 23 3 3 g off dLen dCap ad sLen sCap cur.toArray 3 cs Tryd.underlying23 size1 hg hn hsrc (by simpa using hfit) h1, by simpa [splice] using setRow_heap w g _ _ 3 _ hg, below_setRow hb hBg _, ⟨rfl, rfl, rfl, by simp [World.setRow], fun k hk hne => setRow_other w g k _ (by simpa using hne)⟩⟩

set_option maxHeartbeats 1000000 in
set_option maxRecDepth 20000 in
theorem clone_any (b : Nat) (a : Option Addr) (cap : Nat) (zs : List Int) (w : World) (hB : Box w b (.slice a zs.length cap)) (hs : zs.length ≤ 1048576) (hR : Rd w (.slice a zs.length cap) zs) :
    Calls Tryd.prog 26 #[.pointer (some ⟨b, 0, none⟩)] w fun e w' => ∃ g, e = .returned (.agg #[.slice (some ⟨g, 0, none⟩) zs.length zs.length]) ∧ w'.ownsRow w.heap.size 3 1 (.slice (some ⟨g, 0, none⟩) zs.length zs.length) zs.length (zs.map (Value.int .i64)) ∧ w.heap.size < g ∧ Later w w' := by
  have hb := build1
  obtain ⟨i0, hi, hz0, hz1, hz2⟩ := info_parts Tryd.info3
  have L0 : Later w (w.alloc (.cells #[.slice none 0 0] 25)) := later1 _ _
  have cB := (hB.later L0).cell
  have K0 : Box (w.alloc (.cells #[.slice none 0 0] 25)) w.heap.size (.slice none 0 0) := Box.new _ _ _
  have hR1 := hR.later L0
  have hlt := (hB.later L0).lt
  have hlt0 := hB.lt
  have e : (madeCells (Value.int .i64 0).cells (zs.length * 1)).toList = List.replicate zs.length (Value.int .i64 0) := by rw [Nat.mul_one]; exact toList_madeCells_one _ _
  have hone := ints_one zs
  have hsz := World.size_alloc w (.cells #[.slice none 0 0] 25)
  obtain ⟨X, hX⟩ : ∃ X, Hid (X = zs.map (Value.int .i64)) := ⟨_, rfl⟩
  have hXl : X.length = zs.length := by rw [hX.out]; simp
  have hX1 : ∀ v ∈ X, v.oneCell' = true := by rw [hX.out]; exact ints_one zs
  have hXs : ∀ w1, Later (w.alloc (.cells #[.slice none 0 0] 25)) w1 → 0 < X.length → ∃ ad, a = some ad ∧ ∀ j v, X[j]? = some v → w1.cell? (ad.add j) = some v := by
    rw [hX.out]; exact fun w1 l1 hp => rd_src (hR1.later l1) hp
  obtain ⟨R, hRp⟩ : ∃ R, Hid (R = List.replicate zs.length (Value.int .i64 0)) := ⟨_, rfl⟩
  have hRl : R.length = zs.length := by rw [hRp.out]; simp
  rw [← hRp.out] at e
  go_enter Tryd.func26, Tryd.ntmps26
  have c0 := hB.cell
  have hne : ¬ b = w.heap.size := by omega
  have hne' : ¬ w.heap.size = b := by omega
  have cBl := fun w1 (l : Later (w.alloc (.cells #[.slice none 0 0] 25)) w1) => ((hB.later L0).later l).cell
  clear cB hlt
  go_wp2_with (at_make; refine wpList_make_full _ rfl _ _ 23 rfl (w.alloc (.cells #[.slice none 0 0] 25)).heap.size 3 i0 (.int .i64 0) 1 Tryd.underlying23 hi hz0 hz1 .i64 .i64 _ _ zs.length rfl rfl rfl rfl (by rw [hz2]; omega) (by unfold maxLen; omega) (Nat.le_refl _) ?_; intro w1 hown hgr; rw [e] at hown; have hw := grown_later hgr; have cB1 := cBl _ hw; obtain ⟨hg1, _, _, _⟩ := own_full hown; rw [hsz] at hg1; obtain ⟨w2, hrun, hg2, hb2, _⟩ := copy_run w1 (some ⟨w.heap.size + 1, 0, none⟩) a zs.length zs.length zs.length cap (w.heap.size + 1) 0 R hg1 X (by rw [hXl]; exact (Nat.min_self _).symm) (fun hp => ⟨rfl, hXs _ hw hp⟩) (by omega) hX1 (w.alloc (.cells #[.slice none 0 0] 25)).heap.size (w.alloc (.cells #[.slice none 0 0] 25)) hw (by omega); have cK := (K0.later hb2).cell; have tK := (K0.later hb2).lt; have fK := Below.frozen hb2 (p := ⟨w.heap.size, 0, none⟩) K0.lt)
  refine bodyPost_ret (v := .agg #[.slice (some ⟨w.heap.size + 1, 0, none⟩) zs.length zs.length]) (by simp [results, Tryd.results26, go_sem, cK]) rfl ⟨w.heap.size + 1, rfl, ?_, by omega, ?_⟩
  · rw [splice_all (by omega), hX.out] at hg2
    have o2 : w2.ownsRow (w.heap.size + 1) 3 1 (.slice (some ⟨w.heap.size + 1, 0, none⟩) zs.length zs.length) zs.length (zs.map (Value.int .i64)) := full_own hg2 (Nat.le_refl _) (by unfold maxLen; omega) (by simp)
    exact own_mono (ownsRow_setCell_below o2 (by simp) _) (by omega)
  · exact (Below.trans L0 (Below.mono hb2 (by omega))).setCell (by simp) _

set_option maxHeartbeats 1000000 in
theorem store_no (x : Addr) (b len cap : Nat) (a : Option Addr) (i y : Int) (w : World) (hG : Box w 0 (errAt x)) (hB : Box w b (.slice a len cap)) (hl : (len : Int) ≤ 9223372036854775807) (hi : InR i) (h : i < 0 ∨ (len : Int) ≤ i) :
    Calls Tryd.prog 27 #[.pointer (some ⟨b, 0, none⟩), .int .i64 i, .int .i64 y] w fun e w' => e = .returned (errAt x) ∧ Later w w' := by
  have hne := neq_held x
  go_enter Tryd.func27, Tryd.ntmps27
  go_wp2_with (go_at_call 42; refine (span_no x b len cap a i 1 w hG hB hl hi (by omega)).mono ?_; rintro e w1 ⟨rfl, l1⟩)
  go_ret
  exact ⟨rfl, l1⟩

set_option maxHeartbeats 1000000 in
theorem store_yes (b len cap g : Nat) (k : Nat) (y : Int) (u : Value) (w : World) (hB : Box w b (.slice (some ⟨g, 0, none⟩) len cap)) (hc : len ≤ cap) (hm : cap ≤ maxLen) (h : k < len) (hz : w.cell? ⟨g, k, none⟩ = some u) (hf : w.frozen? ⟨g, k, none⟩ = false) :
    Calls Tryd.prog 27 #[.pointer (some ⟨b, 0, none⟩), .int .i64 (k : Int), .int .i64 y] w fun e w' => e = .returned .nilIface ∧ w' = w.setCell ⟨g, k, none⟩ (.int .i64 y) := by
  have hne := neq_nil
  have hS : Calls Tryd.prog 42 #[.pointer (some ⟨b, 0, none⟩), .int .i64 (k : Int), .int .i64 1] w fun e w' => e = .returned (.tuple #[.slice (some ⟨g, k, none⟩) 1 1, .nilIface]) ∧ w' = w := by
    refine (span_yes b len cap ⟨g, 0, none⟩ k 1 w hB hc hm h).mono ?_
    rintro e w1 ⟨⟨q, rfl, hq⟩, rfl⟩
    rw [hq Nat.one_pos, Addr.add_lit, Nat.zero_add]
    exact ⟨rfl, rfl⟩
  clear hB hc h hm
  go_enter Tryd.func27, Tryd.ntmps27
  go_wp2_with (go_at_call 42; refine hS.mono ?_; rintro e w1 ⟨rfl, rfl⟩)
  go_ret
  exact ⟨rfl, rfl⟩

set_option maxHeartbeats 2000000 in
theorem istore_gen (x : Addr) (v : Value) (zs ys : List Int) (okb : Bool) (i y : Int) (w : World) (hG : Box w 0 (errAt x)) (h : Rd w v zs) (hs : zs.length ≤ 1048576) (hi : InR i)
    (hcase : (okb = false ∧ ys = zs ∧ (i < 0 ∨ (zs.length : Int) ≤ i)) ∨ (okb = true ∧ ys = zs.set i.toNat y ∧ 0 ≤ i ∧ i < (zs.length : Int))) :
    Calls Tryd.prog 9 #[.agg #[v], .int .i64 i, .int .i64 y] w fun e w' => ∃ v', e = .returned (.tuple #[.agg #[v'], .bool okb]) ∧ w'.ownsRow w.heap.size 3 1 v' zs.length (ys.map (Value.int .i64)) ∧ Later w w' := by
  obtain ⟨a, cap, rfl, hl, _⟩ := id h
  have hsame := is_same x
  have hnil := is_nil x
  have W0 := later2 w (.cells #[.slice a zs.length cap] 25) (.cells #[.slice none 0 0] 25)
  have B0 : Box ((w.alloc (.cells #[.slice a zs.length cap] 25)).alloc (.cells #[.slice none 0 0] 25)) w.heap.size (.slice a zs.length cap) := ⟨by simp, by simp; omega⟩
  have B1 : Box ((w.alloc (.cells #[.slice a zs.length cap] 25)).alloc (.cells #[.slice none 0 0] 25)) (w.heap.size + 1) (.slice none 0 0) := ⟨by simp, by simp⟩
  have F1 : ((w.alloc (.cells #[.slice a zs.length cap] 25)).alloc (.cells #[.slice none 0 0] 25)).frozen? ⟨w.heap.size + 1, 0, none⟩ = false := by simp
  have hC := clone_any w.heap.size a cap zs _ B0 hs (h.later W0)
  have hsz : ((w.alloc (.cells #[.slice a zs.length cap] 25)).alloc (.cells #[.slice none 0 0] 25)).heap.size = w.heap.size + 2 := by simp
  go_enter Tryd.func9, Tryd.ntmps9
  go_wp2_with fail
  refine hC.mono ?_
  rintro e w1 ⟨g, rfl, o1, hg1, l1⟩
  have F1' : w1.frozen? ⟨w.heap.size + 1, 0, none⟩ = false := by rw [Below.frozen l1 (p := ⟨w.heap.size + 1, 0, none⟩) B1.lt]; exact F1
  replace B1 := B1.later l1
  have G1 := (hG.later W0).later l1
  have L1 := W0.trans l1
  rw [hsz] at o1 hg1
  clear B0 F1 hC W0 l1 h
  have B5 := Box.new w1 (.slice (some ⟨g, 0, none⟩) zs.length zs.length) 25
  have W1 : Later w1 (w1.alloc (.cells #[.slice (some ⟨g, 0, none⟩) zs.length zs.length] 25)) := later1 _ _
  have hgl : g < w1.heap.size := (own_lt o1 g rfl).2
  have s1 := B1.lt
  have F2 : (w1.alloc (.cells #[.slice (some ⟨g, 0, none⟩) zs.length zs.length] 25)).frozen? ⟨w.heap.size + 1, 0, none⟩ = false := by rw [Below.frozen W1 (p := ⟨w.heap.size + 1, 0, none⟩) B1.lt]; exact F1'
  have B2 := B1.later W1
  have G2 := G1.later W1
  have L2 := L1.trans W1
  have o2 := later_own o1 W1
  go_wp2_with fail
  clear W1 F1' B1 G1 L1 o1
  rcases hcase with ⟨rfl, rfl, ho⟩ | ⟨rfl, hys, h0, h1⟩
  · refine (store_no x _ _ _ _ i y _ G2 B5 hl hi ho).mono ?_
    rintro e w3 ⟨rfl, l3⟩
    have F3 : w3.frozen? ⟨w.heap.size + 1, 0, none⟩ = false := by rw [Below.frozen l3 (p := ⟨w.heap.size + 1, 0, none⟩) B2.lt]; exact F2
    replace B5 := B5.later l3
    replace B2 := B2.later l3
    replace G2 := G2.later l3
    replace o2 := later_own o2 l3
    replace L2 := L2.trans l3
    have c5 := B5.cell
    have c2 := B2.cell
    have c0 := G2.cell
    have t2 := B2.lt
    clear l3 F2 ho hl hi hs
    generalize w1.heap.size = n1 at *
    go_wp2_with fail
    go_region_with (go_at_call 28; refine (hsame _).mono ?_; rintro e w4 ⟨rfl, rfl⟩)
    all_goals
      go_wp2_with fail
      refine bodyPost_ret (v := .tuple #[.agg #[.slice (some ⟨g, 0, none⟩) ys.length ys.length], .bool false]) ?_ ?_ ⟨_, rfl, ?_, ?_⟩
      · have cr := (B2.set (.slice (some ⟨g, 0, none⟩) ys.length ys.length)).cell
        simp [results, Tryd.results9, go_sem, Act.put, cr]
      · rfl
      · exact own_mono (ownsRow_setCell_below o2 (by simp) _) (by omega)
      · exact Below.drew (Below.setCell L2 (by simp) _)
  · obtain ⟨k, rfl⟩ : ∃ k : Nat, i = (k : Int) := ⟨i.toNat, by omega⟩
    have hk : k < zs.length := by omega
    have hcw : (w1.alloc (.cells #[.slice (some ⟨g, 0, none⟩) zs.length zs.length] 25)).cell? ⟨g, k, none⟩ = some (.int .i64 (zs.getD k 0)) := by
      rw [o2.cellAt _ (by omega), List.getElem?_map, List.getElem?_eq_getElem hk, List.getD_eq_getElem?_getD, List.getElem?_eq_getElem hk]; rfl
    have hfw := o2.frozenAt k
    have o3 := (o2.stored k (.int .i64 y)).1
    rw [← List.map_set] at o3
    rw [Int.toNat_natCast] at hys
    rw [← hys] at o3
    refine (store_yes _ _ _ g k y _ _ B5 (Nat.le_refl _) (by unfold maxLen; omega) hk hcw hfw).mono ?_
    rintro e w3 ⟨rfl, hw3⟩
    have F3 : w3.frozen? ⟨w.heap.size + 1, 0, none⟩ = false := by rw [hw3, World.frozen?_setCell]; exact F2
    replace B5 := B5.far (o := k) (c := g) (.int .i64 y) (by omega)
    replace B2 := B2.far (o := k) (c := g) (.int .i64 y) (by omega)
    replace G2 := G2.far (o := k) (c := g) (.int .i64 y) (by omega)
    have L3 : Later w w3 := by rw [hw3]; exact Below.setCell L2 (by show w.heap.size ≤ g; omega) _
    rw [← hw3] at B5 B2 G2 o3
    have c5 := B5.cell
    have c2 := B2.cell
    have c0 := G2.cell
    have t2 := B2.lt
    clear hys hw3 hcw hfw o2 F2 hl hi hs h0 h1
    generalize w1.heap.size = n1 at *
    go_wp2_with fail
    go_region_with (go_at_call 28; refine (hnil _).mono ?_; rintro e w4 ⟨rfl, rfl⟩)
    all_goals
      go_wp2_with fail
      refine bodyPost_ret (v := .tuple #[.agg #[.slice (some ⟨g, 0, none⟩) zs.length zs.length], .bool true]) ?_ ?_ ⟨_, rfl, ?_, ?_⟩
      · have cr := (B2.set (.slice (some ⟨g, 0, none⟩) zs.length zs.length)).cell
        simp [results, Tryd.results9, go_sem, Act.put, cr]
      · rfl
      · exact own_mono (ownsRow_setCell_below o3 (by simp) _) (by omega)
      · exact Below.drew (Below.setCell L3 (by simp) _)

theorem istore_any (x : Addr) (v : Value) : StoreG 9 (errAt x) v := by
  intro zs i y w hG h hs hi
  refine istore_gen x v zs (storeL zs i y) (okAt zs i) i y w hG h hs hi ?_
  rcases okAt_cases zs i with ⟨ho, e1, _⟩ | ⟨h0, h1, e1, _⟩
  · exact .inl ⟨e1, by unfold storeL; rw [e1]; rfl, ho⟩
  · exact .inr ⟨e1, by unfold storeL; rw [e1]; rfl, h0, h1⟩

end Go.Proofs.YtfmfkfijlfeimaaDoor
