/- Memories that are drawn. -/
import Derived.Test.YtfmfkfijlfeimaaDoorM10
import Derived.Deep.RegionLaw
namespace Go.Proofs.YtfmfkfijlfeimaaDoor
open Go.RowKit

/-- append onto an owned row, as one step of a region that draws. -/
theorem step_append_own {P : Program} {ops : Array Oper} {o : Oper} {a : Act} {w : World} {K : Act → World → Prop} {Q : Exit → Act → World → Prop} {E : Prop}
    (hg : o.guard = none) (s x : Operand) (t : TypeId) (hop : o.op = Op.call { callee := Callee.builtin Builtin.append, args := #[s, x], argTypes := #[t, t] })
    (base : Nat) (e : TypeId) (i : TypeInfo) (z : Value) (size bytes : Nat) (ht : P.underlying t = some (.slice e)) (hi : P.info? e = some i) (hz : i.zero = some z)
    (hsize : i.size = size) (hby : i.bytes = bytes) (hzs : z.cells.size = size) (hsz : 0 < size)
    (v : Value) (n : Nat) (xs : List Value) (hs : a.eval s = v) (hown : w.ownsRow base e size v n xs)
    (ad : Addr) (m c : Nat) (news : List Value) (hx : a.eval x = .slice (some ad) m c) (hl : news.length = m * size) (hnews : ∀ j u, news[j]? = some u → w.cell? (ad.add j) = some u) (h1 : ∀ u ∈ news, u.oneCell' = true)
    (h63 : n + m ≤ maxLen) (hbytes : (n + m) * bytes ≤ 140737488355328) (hbase : base ≤ w.heap.size)
    (h : ∀ v' w', w'.ownsRow base e size v' (n + m) (xs ++ news) → w.grownBy w' v.ownBlock → K (a.put o.dst v') w') :
    if Region.wanted o (yielded ops a.tmps) = true then Oper.wp P o a w K Q else E := by
  have hw : Region.wanted o (yielded ops a.tmps) = true := by simp [Region.wanted, hg]
  rw [if_pos hw]
  exact wp_append_own w s x t hop base e i z size bytes ht hi hz hsize hby hzs hsz v n xs hs hown ad m c news hx hl hnews h1 h63 hbytes hbase (fun v' w' h2 h3 _ => h v' w' h2 h3)

theorem OnlyK.grown {K : Nat} {w w' : World} (h : OnlyK K w w') : w.grownBy w' (some K) := ⟨h.os, h.tape, h.output, h.size, fun k hk hn => h.block k hk (fun e => hn (by rw [e]))⟩
/-- A cell that may be written. -/
structure Var (w : World) (b : Nat) (v : Value) : Prop where
  box : Box w b v
  free : w.frozen? ⟨b, 0, none⟩ = false
theorem Var.later {w w' : World} {b : Nat} {v : Value} (h : Var w b v) (hb : Later w w') : Var w' b v := ⟨h.box.later hb, by rw [Below.frozen hb (p := ⟨b, 0, none⟩) h.box.lt]; exact h.free⟩
theorem Var.grown {w w' : World} {b g : Nat} {v : Value} (h : Var w b v) (hg : w.grownBy w' (some g)) (hn : b ≠ g) : Var w' b v :=
  ⟨h.box.grown hg hn, by rw [(gcell hg h.box.lt hn 0).2]; exact h.free⟩
theorem Var.grown' {w w' : World} {b : Nat} {v u : Value} (h : Var w b v) (hg : w.grownBy w' u.ownBlock) (hn : ∀ g, u.ownBlock = some g → b ≠ g) : Var w' b v := by
  cases hu : u.ownBlock with
  | none => rw [hu] at hg; exact h.later (grown_later hg)
  | some g => rw [hu] at hg; exact h.grown hg (hn g hu)
theorem Var.set {w : World} {b : Nat} {u : Value} (h : Var w b u) (v : Value) : Var (w.setCell ⟨b, 0, none⟩ v) b v := ⟨h.box.set v, by rw [World.frozen?_setCell]; exact h.free⟩
theorem Var.far {w : World} {b c o : Nat} {u : Value} (h : Var w b u) (v : Value) (hn : b ≠ c) : Var (w.setCell ⟨c, o, none⟩ v) b u := ⟨h.box.far v hn, by rw [World.frozen?_setCell]; exact h.free⟩
theorem Var.drew {w : World} {b : Nat} {u : Value} (h : Var w b u) : Var w.drew b u := h.later (Later.drew _)
theorem own_grown1 {w w' : World} {b n g : Nat} {v : Value} {xs : List Value} (h : w.ownsRow b 3 1 v n xs) (hg : w.grownBy w' (some g)) (hn : v.ownBlock ≠ some g) : w'.ownsRow b 3 1 v n xs := h.kept hg (.inr hn)
theorem At.origin {B K : Nat} {a : Option Addr} {len cap : Nat} {w0 w w' : World} (h : At B K a len cap w0 w) (h' : At B K a len cap w w') : At B K a len cap w0 w' := ⟨h'.cur, h.only.trans h'.only⟩

theorem new_one (w : World) (u : Value) : ∀ j x, [u][j]? = some x → (w.alloc (.cells #[u] 3)).cell? ((⟨w.heap.size, 0, none⟩ : Addr).add j) = some x := by
  intro j x hj
  match j, hj with
  | 0, hj => simp at hj; subst hj; simp [Addr.add]

theorem at_grown {B K : Nat} {a : Option Addr} {len cap : Nat} {w0 w w' : World} {u : Value} (h : At B K a len cap w0 w) (hg : w.grownBy w' u.ownBlock) (hn : ∀ g, u.ownBlock = some g → K < g ∧ w0.heap.size ≤ g) : At B K a len cap w0 w' := by
  have hb : Below (K + 1) w w' := ⟨hg.os, hg.tape, hg.output, hg.size, fun k hk => hg.block k (by have := h.cur.hK; omega) (fun e => by have := hn k e.symm; omega)⟩
  refine ⟨h.cur.later hb, ⟨hg.os.trans h.only.os, hg.tape.trans h.only.tape, hg.output.trans h.only.output, Nat.le_trans h.only.size hg.size, fun k hk hk' => ?_⟩⟩
  rw [hg.block k (Nat.lt_of_lt_of_le hk h.only.size) (fun e => by have := hn k e.symm; omega)]
  exact h.only.block k hk hk'
theorem at_far {B K c o : Nat} {a : Option Addr} {len cap : Nat} {w0 w : World} (h : At B K a len cap w0 w) (v : Value) (hn : K < c) (hn0 : w0.heap.size ≤ c) : At B K a len cap w0 (w.setCell ⟨c, o, none⟩ v) := by
  have hb : Below (K + 1) w (w.setCell ⟨c, o, none⟩ v) := (Below.refl _ _).setCell (by show K + 1 ≤ c; omega) _
  refine ⟨h.cur.later hb, ⟨h.only.os, h.only.tape, h.only.output, by rw [setCell_size]; exact h.only.size, fun k hk hk' => ?_⟩⟩
  rw [Below.heap_setCell _ _ _ _ (show k ≠ c by omega)]
  exact h.only.block k hk hk'

set_option maxHeartbeats 1000000 in
theorem l2mem_any {B K : Nat} {a : Option Addr} {len cap : Nat} {w0 w : World} (h : At B K a len cap w0 w) :
    Calls Tryd.prog 23 #[.pointer (some ⟨K, 0, none⟩)] w fun e w' => ∃ (v : Value) (zs : List Int), e = .returned (.agg #[v]) ∧ zs.length ≤ 20 ∧ (∀ z ∈ zs, InR z) ∧ w'.ownsRow w.heap.size 3 1 v zs.length (zs.map (Value.int .i64)) ∧ At B K a len cap w0 w' := by
  have hb := build0
  obtain ⟨i0, hi, hz0, hz1, hz2⟩ := info_parts Tryd.info3
  have hK := h.cur.hK
  have hw0 := h.only.size
  have hA := h.later (later2 w (.cells #[.slice none 0 0] 25) (.cells #[.slice none 0 0] 25))
  have V1 : Var ((w.alloc (.cells #[.slice none 0 0] 25)).alloc (.cells #[.slice none 0 0] 25)) w.heap.size (.slice none 0 0) := ⟨⟨by simp, by simp; omega⟩, by simp⟩
  have V3 : Var ((w.alloc (.cells #[.slice none 0 0] 25)).alloc (.cells #[.slice none 0 0] 25)) (w.heap.size + 1) (.slice none 0 0) := ⟨⟨by simp, by simp⟩, by simp⟩
  have hsz : ((w.alloc (.cells #[.slice none 0 0] 25)).alloc (.cells #[.slice none 0 0] 25)).heap.size = w.heap.size + 2 := by simp
  go_enter Tryd.func23, Tryd.ntmps23
  go_wp2_with fail
  refine (below_at (At.start hA.cur) 20 (by decide) (by decide)).mono ?_
  rintro e w1 ⟨nn, rfl, n0, n1, hA1⟩
  replace V1 := V1.grown hA1.only.grown (by omega)
  replace V3 := V3.grown hA1.only.grown (by omega)
  have hs1 := hA1.only.size
  rw [hsz] at hs1
  replace hA := hA.origin hA1
  clear hA1
  go_wp2_with fail
  go_loopw [5] (fun ii wr => ∃ (k : Nat) (zs : List Int) (v : Value), ii = .int .i64 (k : Int) ∧ (k : Int) ≤ nn ∧ zs.length = k ∧ (∀ z ∈ zs, InR z) ∧ Var wr w.heap.size (.slice none 0 0) ∧ Var wr (w.heap.size + 1) v ∧ wr.ownsRow (w.heap.size + 2) 3 1 v k (zs.map (Value.int .i64)) ∧ At B K a len cap w0 wr ∧ w.heap.size + 2 ≤ wr.heap.size) (fun ii _ => (nn - intOf ii).toNat)
  case atStart => exact ⟨0, [], _, rfl, n0, rfl, by simp, V1, V3, World.ownsRow_nil _ _ _ _, hA, hs1⟩
  case round =>
    obtain ⟨k, zs, v, rfl, hk, hzl, hzr, V1, V3, ho, hA, hsw⟩ := hrel
    obtain ⟨av, pv, rfl⟩ := own_slice ho
    have c1 := V1.box.cell
    have c3 := V3.box.cell
    by_cases hlt : (k : Int) < nn
    · go_wp2_with fail
      have hKo : (Value.slice av k pv).ownBlock ≠ some K := fun e => by have := own_lt ho K e; omega
      have hoD := later_own ho (Later.drew _)
      have hAD := hA.later (Later.drew _)
      have V1D := V1.drew
      have V3D := V3.drew
      go_region_law (first | (go_simp; go_at_call 25; refine (int_at (At.start hAD.cur)).mono ?_; rintro e w2 ⟨z, rfl, hz, hA2⟩; have V1' := V1D.grown hA2.only.grown (by omega); have V3' := V3D.grown hA2.only.grown (by omega); have ho' := own_grown1 hoD hA2.only.grown hKo; have hA' := hAD.origin hA2; have hs2 := hA2.only.size; have c3' := V3'.box.cell; have l3' := V3'.box.lt; clear hA2) | (refine step_append_own rfl _ _ 23 rfl (w.heap.size + 2) 3 i0 (.int .i64 0) 1 8 Tryd.underlying23 hi hz0 hz1 hz2 rfl (by decide) _ _ _ rfl (ho'.alloc _) ⟨w2.heap.size, 0, none⟩ 1 1 [.int .i64 z] rfl rfl (new_one _ _) (by simp [Value.oneCell']) (by unfold maxLen; omega) (by omega) (by simp at hs2 ⊢; omega) ?_; intro v3 w3 ho3 hg3; obtain ⟨a3, p3, rfl⟩ := own_slice ho3; have Y1 := (V1'.later (later1 _ _)).grown' hg3 (fun g hg => by have := own_lt ho' g hg; omega); have Y3 := (V3'.later (later1 _ _)).grown' hg3 (fun g hg => by have := own_lt ho' g hg; omega); have YA := at_grown (hA'.alloc _) hg3 (fun g hg => by have := own_lt ho' g hg; omega); have hs3 := hg3.size; have d3 := Y3.box.cell; have e3 := Y3.free; have l3 := Y3.box.lt))
      all_goals
        simp at hs2 hs3
        have Z3 := Y3.set (.slice a3 (k + 1) p3)
        have Z1 := Y1.far (c := w.heap.size + 1) (o := 0) (.slice a3 (k + 1) p3) (by omega)
        have Zo := ownsRow_setCell_below (a := ⟨w.heap.size + 1, 0, none⟩) ho3 (by simp) (.slice a3 (k + 1) p3)
        have ZA := at_far (c := w.heap.size + 1) (o := 0) YA (.slice a3 (k + 1) p3) (by omega) (by omega)
        go_wp2_with fail
        go_roundw
        case rel => exact ⟨k + 1, zs ++ [z], _, by go_num, by omega, by simp [hzl], by intro y hy; rcases List.mem_append.1 hy with h | h; exact hzr y h; rw [List.mem_singleton.1 h]; exact hz, Z1, Z3, by rw [List.map_append]; exact Zo, ZA, by rw [setCell_size]; omega⟩
        case measure => simp [intOf]; omega
    · have hlt' : decide ((k : Int) < nn) = false := by simp; omega
      have l1 := V1.box.lt
      have f1 := V1.free
      go_wp2_with fail
      have BR := V1.set (.slice av k pv)
      have cr := BR.box.cell
      refine bodyPost_ret (v := .agg #[.slice av k pv]) (by simp [results, Tryd.results23, go_sem, cr]) rfl ⟨_, rfl, zs, by omega, hzr, ?_, ?_⟩
      · rw [hzl]
        exact own_mono (ownsRow_setCell_below ho (by simp) _) (by omega)
      · exact at_far hA _ hK hw0

end Go.Proofs.YtfmfkfijlfeimaaDoor
