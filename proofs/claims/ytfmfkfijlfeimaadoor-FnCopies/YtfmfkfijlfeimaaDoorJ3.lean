/- impl's methods on a memory: move; CopyWords. -/
import Derived.Test.YtfmfkfijlfeimaaDoorJ2
import Derived.Test.YtfmfkfijlfeimaaDoorM10
namespace Go.Proofs.YtfmfkfijlfeimaaDoor
open Go.RowKit

theorem rOk_false {len : Nat} {p n : Int} (h : rOk len p n = false) : p < 0 ∨ n < 0 ∨ (len : Int) - p < n := by
  rcases Decidable.em (p < 0 ∨ n < 0 ∨ (len : Int) - p < n) with h' | h'
  · exact h'
  · exfalso
    have : rOk len p n = true := by unfold rOk; simp only [Bool.and_eq_true, decide_eq_true_eq]; omega
    rw [this] at h; cases h

theorem cp_splice (zs : List Int) (f t n : Nat) (hf : f + n ≤ zs.length) : splice (zs.map (Value.int .i64)) t (((zs.drop f).take n).map (Value.int .i64)) = (cp zs f t n).map (Value.int .i64) := by
  have hl : (((zs.drop f).take n).map (Value.int .i64)).length = n := by simp; omega
  unfold splice cp
  rw [hl, List.map_append, List.map_append]
  simp only [List.map_take, List.map_drop]

set_option maxHeartbeats 1000000 in
theorem move_no1 (x : Addr) (b len cap : Nat) (a : Option Addr) (f t n : Int) (w : World) (hG : Box w 0 (errAt x)) (hB : Box w b (.slice a len cap)) (hl : (len : Int) ≤ 9223372036854775807) (hf : InR f) (h : f < 0 ∨ n < 0 ∨ (len : Int) - f < n) :
    Calls Tryd.prog 30 #[.pointer (some ⟨b, 0, none⟩), .int .i64 f, .int .i64 t, .int .i64 n] w fun e w' => e = .returned (errAt x) ∧ Later w w' := by
  have hne := neq_held x
  have hS := span_no x b len cap a f n w hG hB hl hf h
  clear h hG hB hl hf
  go_enter Tryd.func30, Tryd.ntmps30
  go_wp2_with (go_at_call 42; refine hS.mono ?_; rintro e w1 ⟨rfl, l1⟩)
  go_ret
  exact ⟨rfl, l1⟩

set_option maxHeartbeats 1000000 in
theorem move_no2 (x y : Addr) (b len cap : Nat) (f n : Nat) (t : Int) (w : World) (hG : Box w 0 (errAt x)) (hB : Box w b (.slice (some y) len cap)) (hc : len ≤ cap) (hm : cap ≤ maxLen) (hl : (len : Int) ≤ 9223372036854775807) (ht : InR t)
    (h1 : f + n ≤ len) (h : t < 0 ∨ (n : Int) < 0 ∨ (len : Int) - t < (n : Int)) :
    Calls Tryd.prog 30 #[.pointer (some ⟨b, 0, none⟩), .int .i64 (f : Int), .int .i64 t, .int .i64 (n : Int)] w fun e w' => e = .returned (errAt x) ∧ Later w w' := by
  have hne := neq_held x
  have hni := neq_nil
  have hS1 := span_yes b len cap y f n w hB hc hm h1
  have hS2 := span_no x b len cap (some y) t n w hG hB hl ht h
  clear h hG hB hl ht hc hm h1
  go_enter Tryd.func30, Tryd.ntmps30
  go_wp2_with fail
  refine hS1.mono ?_
  rintro e w1 ⟨⟨q1, rfl, _⟩, rfl⟩
  go_wp2_with fail
  refine hS2.mono ?_
  rintro e w2 ⟨rfl, l2⟩
  go_wp2_with fail
  go_ret
  exact ⟨rfl, l2⟩

set_option maxHeartbeats 1000000 in
theorem move_yes (b g : Nat) (zs : List Int) (f t n base : Nat) (w : World) (hB : Box w b (.slice (some ⟨g, 0, none⟩) zs.length zs.length)) (ho : w.ownsRow base 3 1 (.slice (some ⟨g, 0, none⟩) zs.length zs.length) zs.length (zs.map (Value.int .i64)))
    (hf : f + n ≤ zs.length) (ht : t + n ≤ zs.length) :
    Calls Tryd.prog 30 #[.pointer (some ⟨b, 0, none⟩), .int .i64 (f : Int), .int .i64 (t : Int), .int .i64 (n : Int)] w fun e w' => e = .returned .nilIface ∧ w'.ownsRow base 3 1 (.slice (some ⟨g, 0, none⟩) zs.length zs.length) zs.length ((cp zs f t n).map (Value.int .i64)) ∧ w.grownBy w' (some g) := by
  have hni := neq_nil
  obtain ⟨hg, hbg, hm, _⟩ := own_full ho
  have hS1 := span_yes b _ _ _ f n w hB (Nat.le_refl _) hm hf
  have hS2 := span_yes b _ _ _ t n w hB (Nat.le_refl _) hm ht
  obtain ⟨X, hX⟩ : ∃ X, Hid (X = ((zs.drop f).take n).map (Value.int .i64)) := ⟨_, rfl⟩
  have hXl : X.length = n := by rw [hX.out]; simp; omega
  have hX1 : ∀ v ∈ X, v.oneCell' = true := by rw [hX.out]; exact ints_one _
  have hXs : ∀ j v, X[j]? = some v → w.cell? ((⟨g, f, none⟩ : Addr).add j) = some v := by
    intro j v hv
    have hj : j < n := by
      rcases Nat.lt_or_ge j X.length with h | h
      · omega
      · rw [List.getElem?_eq_none h] at hv; cases hv
    rw [hX.out, List.getElem?_map, List.getElem?_take_of_lt hj, List.getElem?_drop] at hv
    rw [Addr.add_lit, ho.cellAt _ (by omega), List.getElem?_map]
    exact hv
  have hrunA := fun (q1 q2 : Addr) (h1 : 0 < n → q1 = (⟨g, 0, none⟩ : Addr).add f) (h2 : 0 < n → q2 = (⟨g, 0, none⟩ : Addr).add t) => copy_run w (some q2) (some q1) n n n n g t (zs.map (Value.int .i64)) hg X (by rw [hXl]; exact (Nat.min_self _).symm) (fun hp => ⟨by rw [h2 (by omega), Addr.add_lit, Nat.zero_add], _, rfl, by rw [h1 (by omega), Addr.add_lit, Nat.zero_add]; exact hXs⟩) (by rw [List.length_map]; omega) hX1 0 w (Below.refl _ _) (Nat.zero_le _)
  have hfin : ∀ w' : World, w'.heap[g]? = some (.cells (splice (zs.map (Value.int .i64)) t X).toArray 3 (0, 0)) → w'.ownsRow base 3 1 (.slice (some ⟨g, 0, none⟩) zs.length zs.length) zs.length ((cp zs f t n).map (Value.int .i64)) := by
    intro w' h'
    rw [hX.out, cp_splice zs f t n hf] at h'
    exact full_own h' hbg hm (by rw [List.length_map, cp_len hf ht])
  clear hXs hX1 hg ho hB
  go_enter Tryd.func30, Tryd.ntmps30
  go_wp2_with fail
  refine hS1.mono ?_
  rintro e w1 ⟨⟨q1, rfl, hq1⟩, rfl⟩
  go_wp2_with fail
  refine hS2.mono ?_
  rintro e w2 ⟨⟨q2, rfl, hq2⟩, rfl⟩
  obtain ⟨w3, hrun, hg3, _, hgr3⟩ := hrunA q1 q2 hq1 hq2
  replace hfin := hfin w3 hg3
  clear hg3 hrunA hq1 hq2 hS1 hS2
  go_wp2_with fail
  go_ret
  exact ⟨rfl, hfin, hgr3⟩

set_option maxHeartbeats 2000000 in
theorem icopy_gen (x : Addr) (v : Value) (zs ys : List Int) (okb : Bool) (f t n : Int) (w : World) (hG : Box w 0 (errAt x)) (h : Rd w v zs) (hs : zs.length ≤ 1048576) (hf : InR f) (ht : InR t)
    (hcase : (okb = false ∧ ys = zs ∧ (rOk zs.length f n = false ∨ (rOk zs.length f n = true ∧ rOk zs.length t n = false))) ∨ (okb = true ∧ ys = cp zs f.toNat t.toNat n.toNat ∧ rOk zs.length f n = true ∧ rOk zs.length t n = true)) :
    Calls Tryd.prog 13 #[.agg #[v], .int .i64 f, .int .i64 t, .int .i64 n] w fun e w' => ∃ v', e = .returned (.tuple #[.agg #[v'], .bool okb]) ∧ w'.ownsRow w.heap.size 3 1 v' zs.length (ys.map (Value.int .i64)) ∧ Later w w' := by
  obtain ⟨a, cap, rfl, hl, _⟩ := id h
  have hsame := is_same x
  have hnil := is_nil x
  have W0 := later2 w (.cells #[.slice a zs.length cap] 25) (.cells #[.slice none 0 0] 25)
  have B0 : Box ((w.alloc (.cells #[.slice a zs.length cap] 25)).alloc (.cells #[.slice none 0 0] 25)) w.heap.size (.slice a zs.length cap) := ⟨by simp, by simp; omega⟩
  have B1 : Box ((w.alloc (.cells #[.slice a zs.length cap] 25)).alloc (.cells #[.slice none 0 0] 25)) (w.heap.size + 1) (.slice none 0 0) := ⟨by simp, by simp⟩
  have F1 : ((w.alloc (.cells #[.slice a zs.length cap] 25)).alloc (.cells #[.slice none 0 0] 25)).frozen? ⟨w.heap.size + 1, 0, none⟩ = false := by simp
  have hC := clone_any w.heap.size a cap zs _ B0 hs (h.later W0)
  have hsz : ((w.alloc (.cells #[.slice a zs.length cap] 25)).alloc (.cells #[.slice none 0 0] 25)).heap.size = w.heap.size + 2 := by simp
  go_enter Tryd.func13, Tryd.ntmps13
  go_wp2_with fail
  refine hC.mono ?_
  rintro e w1 ⟨g, rfl, o1, hg1, l1⟩
  have F1' : w1.frozen? ⟨w.heap.size + 1, 0, none⟩ = false := by rw [Below.frozen l1 (p := ⟨w.heap.size + 1, 0, none⟩) B1.lt]; exact F1
  replace B1 := B1.later l1
  have G1 := (hG.later W0).later l1
  have L1 := W0.trans l1
  rw [hsz] at o1 hg1
  clear B0 F1 hC W0 l1 h
  have B5 := Box.new w1 (.slice (some ⟨g, 0, none⟩) zs.length zs.length) 25
  have W1 : Later w1 (w1.alloc (.cells #[.slice (some ⟨g, 0, none⟩) zs.length zs.length] 25)) := later1 _ _
  have hgl : g < w1.heap.size := (own_lt o1 g rfl).2
  have s1 := B1.lt
  have F2 : (w1.alloc (.cells #[.slice (some ⟨g, 0, none⟩) zs.length zs.length] 25)).frozen? ⟨w.heap.size + 1, 0, none⟩ = false := by rw [Below.frozen W1 (p := ⟨w.heap.size + 1, 0, none⟩) B1.lt]; exact F1'
  have B2 := B1.later W1
  have G2 := G1.later W1
  have L2 := L1.trans W1
  have o2 := later_own o1 W1
  go_wp2_with fail
  clear W1 F1' B1 G1 L1 o1
  rcases hcase with ⟨rfl, rfl, ho⟩ | ⟨rfl, hys, hr1, hr2⟩
  · have hM : Calls Tryd.prog 30 #[.pointer (some ⟨w1.heap.size, 0, none⟩), .int .i64 f, .int .i64 t, .int .i64 n] (w1.alloc (.cells #[.slice (some ⟨g, 0, none⟩) ys.length ys.length] 25)) fun e w' => e = .returned (errAt x) ∧ Later (w1.alloc (.cells #[.slice (some ⟨g, 0, none⟩) ys.length ys.length] 25)) w' := by
      rcases ho with ho | ⟨ho1, ho2⟩
      · exact move_no1 x _ _ _ _ f t n _ G2 B5 hl hf (rOk_false ho)
      · have hr := rOk_true ho1
        obtain ⟨f', rfl⟩ : ∃ k : Nat, f = (k : Int) := ⟨f.toNat, by omega⟩
        obtain ⟨n', rfl⟩ : ∃ k : Nat, n = (k : Int) := ⟨n.toNat, by omega⟩
        exact move_no2 x _ _ _ _ f' n' t _ G2 B5 (Nat.le_refl _) (by unfold maxLen; omega) hl ht (by omega) (rOk_false ho2)
    refine hM.mono ?_
    rintro e w3 ⟨rfl, l3⟩
    have F3 : w3.frozen? ⟨w.heap.size + 1, 0, none⟩ = false := by rw [Below.frozen l3 (p := ⟨w.heap.size + 1, 0, none⟩) B2.lt]; exact F2
    replace B5 := B5.later l3
    replace B2 := B2.later l3
    replace G2 := G2.later l3
    replace o2 := later_own o2 l3
    replace L2 := L2.trans l3
    have c5 := B5.cell
    have c2 := B2.cell
    have c0 := G2.cell
    have t2 := B2.lt
    clear l3 F2 ho hl hf ht hs hM
    generalize w1.heap.size = n1 at *
    go_wp2_with fail
    go_region_with (go_at_call 28; refine (hsame _).mono ?_; rintro e w4 ⟨rfl, rfl⟩)
    all_goals
      go_wp2_with fail
      refine bodyPost_ret (v := .tuple #[.agg #[.slice (some ⟨g, 0, none⟩) ys.length ys.length], .bool false]) ?_ ?_ ⟨_, rfl, ?_, ?_⟩
      · have cr := (B2.set (.slice (some ⟨g, 0, none⟩) ys.length ys.length)).cell
        simp [results, Tryd.results13, go_sem, Act.put, cr]
      · rfl
      · exact own_mono (ownsRow_setCell_below o2 (by simp) _) (by omega)
      · exact Below.drew (Below.setCell L2 (by simp) _)
  · have hr1 := rOk_true hr1
    have hr2 := rOk_true hr2
    obtain ⟨f', rfl⟩ : ∃ k : Nat, f = (k : Int) := ⟨f.toNat, by omega⟩
    obtain ⟨t', rfl⟩ : ∃ k : Nat, t = (k : Int) := ⟨t.toNat, by omega⟩
    obtain ⟨n', rfl⟩ : ∃ k : Nat, n = (k : Int) := ⟨n.toNat, by omega⟩
    rw [Int.toNat_natCast, Int.toNat_natCast, Int.toNat_natCast] at hys
    have hM := move_yes w1.heap.size g zs f' t' n' _ _ B5 o2 (by omega) (by omega)
    rw [← hys] at hM
    refine hM.mono ?_
    rintro e w3 ⟨rfl, o3, g3⟩
    have F3 : w3.frozen? ⟨w.heap.size + 1, 0, none⟩ = false := by
      have e := g3.block (w.heap.size + 1) B2.lt (by intro h; cases h; omega)
      simp only [World.frozen?] at F2 ⊢
      rw [e]; exact F2
    replace B5 := B5.grown g3 (by omega)
    replace B2 := B2.grown g3 (by omega)
    replace G2 := G2.grown g3 (by omega)
    have L3 : Later w w3 := Below.trans L2 (later_grown (u := .slice (some ⟨g, 0, none⟩) zs.length zs.length) g3 L2.size (fun g' hg' => by cases hg'; show w.heap.size ≤ g; omega))
    have c5 := B5.cell
    have c2 := B2.cell
    have c0 := G2.cell
    have t2 := B2.lt
    clear hys hM g3 o2 F2 hl hf ht hs hr1 hr2 L2
    generalize w1.heap.size = n1 at *
    go_wp2_with fail
    go_region_with (go_at_call 28; refine (hnil _).mono ?_; rintro e w4 ⟨rfl, rfl⟩)
    all_goals
      go_wp2_with fail
      refine bodyPost_ret (v := .tuple #[.agg #[.slice (some ⟨g, 0, none⟩) zs.length zs.length], .bool true]) ?_ ?_ ⟨_, rfl, ?_, ?_⟩
      · have cr := (B2.set (.slice (some ⟨g, 0, none⟩) zs.length zs.length)).cell
        simp [results, Tryd.results13, go_sem, Act.put, cr]
      · rfl
      · exact own_mono (ownsRow_setCell_below o3 (by simp) _) (by omega)
      · exact Below.drew (Below.setCell L3 (by simp) _)

theorem icopy_any (x : Addr) (v : Value) : CopyG 13 (errAt x) v := by
  intro zs f t n w hG h hs hf ht _
  refine icopy_gen x v zs (copyL zs f t n) (okC zs f t n) f t n w hG h hs hf ht ?_
  unfold copyL okC
  cases h1 : rOk zs.length f n
  · exact .inl ⟨rfl, by simp, .inl rfl⟩
  · cases h2 : rOk zs.length t n
    · exact .inl ⟨rfl, by simp, .inr ⟨rfl, rfl⟩⟩
    · exact .inr ⟨rfl, by simp, rfl, rfl⟩

end Go.Proofs.YtfmfkfijlfeimaaDoor
