/- Setups that are drawn. -/
import Derived.Test.YtlfkjjnhlkaipaaU7
import Derived.Test.YtlfkjjnhlkaipaaD4
import Derived.Deep.RegionLaw
namespace Go.Proofs.Ytlfkjjnhlkaipaa
open Go.RowKit

/-- append onto an owned row, as one step of a region that draws. -/
theorem step_append_own {P : Program} {ops : Array Oper} {o : Oper} {a : Act} {w : World} {K : Act → World → Prop} {Q : Exit → Act → World → Prop} {E : Prop}
    (hg : o.guard = none) (s x : Operand) (t : TypeId) (hop : o.op = Op.call { callee := Callee.builtin Builtin.append, args := #[s, x], argTypes := #[t, t] })
    (base : Nat) (e : TypeId) (i : TypeInfo) (z : Value) (size bytes : Nat) (ht : P.underlying t = some (.slice e)) (hi : P.info? e = some i) (hz : i.zero = some z)
    (hsize : i.size = size) (hby : i.bytes = bytes) (hzs : z.cells.size = size) (hsz : 0 < size)
    (v : Value) (n : Nat) (xs : List Value) (hs : a.eval s = v) (hown : w.ownsRow base e size v n xs)
    (ad : Addr) (m c : Nat) (news : List Value) (hx : a.eval x = .slice (some ad) m c) (hl : news.length = m * size) (hnews : ∀ j u, news[j]? = some u → w.cell? (ad.add j) = some u) (h1 : ∀ u ∈ news, u.oneCell' = true)
    (h63 : n + m ≤ maxLen) (hbytes : (n + m) * bytes ≤ 140737488355328) (hbase : base ≤ w.heap.size)
    (h : ∀ v' w', w'.ownsRow base e size v' (n + m) (xs ++ news) → w.grownBy w' v.ownBlock → K (a.put o.dst v') w') :
    if Region.wanted o (yielded ops a.tmps) = true then Oper.wp P o a w K Q else E := by
  have hw : Region.wanted o (yielded ops a.tmps) = true := by simp [Region.wanted, hg]
  rw [if_pos hw]
  exact wp_append_own w s x t hop base e i z size bytes ht hi hz hsize hby hzs hsz v n xs hs hown ad m c news hx hl hnews h1 h63 hbytes hbase (fun v' w' h2 h3 _ => h v' w' h2 h3)

theorem OnlyK.grown {K : Nat} {w w' : World} (h : OnlyK K w w') : w.grownBy w' (some K) := ⟨h.os, h.tape, h.output, h.size, fun k hk hn => h.block k hk (fun e => hn (by rw [e]))⟩
theorem At.origin {B K : Nat} {a : Option Addr} {len cap : Nat} {w0 w w' : World} (h : At B K a len cap w0 w) (h' : At B K a len cap w w') : At B K a len cap w0 w' := ⟨h'.cur, h.only.trans h'.only⟩
theorem new_onei (w : World) (u : Value) : ∀ j x, [u][j]? = some x → (w.alloc (.cells #[u] 3)).cell? ((⟨w.heap.size, 0, none⟩ : Addr).add j) = some x := by
  intro j x hj
  match j, hj with
  | 0, hj => simp at hj; subst hj; simp [Addr.add]
theorem at_grown {B K : Nat} {a : Option Addr} {len cap : Nat} {w0 w w' : World} {u : Value} (h : At B K a len cap w0 w) (hg : w.grownBy w' u.ownBlock) (hn : ∀ g, u.ownBlock = some g → K < g ∧ w0.heap.size ≤ g) : At B K a len cap w0 w' := by
  have hb : Below (K + 1) w w' := ⟨hg.os, hg.tape, hg.output, hg.size, fun k hk => hg.block k (by have := h.cur.hK; omega) (fun e => by have := hn k e.symm; omega)⟩
  refine ⟨h.cur.later hb, ⟨hg.os.trans h.only.os, hg.tape.trans h.only.tape, hg.output.trans h.only.output, Nat.le_trans h.only.size hg.size, fun k hk hk' => ?_⟩⟩
  rw [hg.block k (Nat.lt_of_lt_of_le hk h.only.size) (fun e => by have := hn k e.symm; omega)]
  exact h.only.block k hk hk'
theorem at_far {B K c o : Nat} {a : Option Addr} {len cap : Nat} {w0 w : World} (h : At B K a len cap w0 w) (v : Value) (hn : K < c) (hn0 : w0.heap.size ≤ c) : At B K a len cap w0 (w.setCell ⟨c, o, none⟩ v) := by
  have hb : Below (K + 1) w (w.setCell ⟨c, o, none⟩ v) := (Below.refl _ _).setCell (by show K + 1 ≤ c; omega) _
  refine ⟨h.cur.later hb, ⟨h.only.os, h.only.tape, h.only.output, by rw [show (w.setCell ⟨c, o, none⟩ v).heap.size = w.heap.size from by simp]; exact h.only.size, fun k hk hk' => ?_⟩⟩
  rw [Below.heap_setCell _ _ _ _ (show k ≠ c by omega)]
  exact h.only.block k hk hk'
theorem own_slicei {w : World} {base n : Nat} {v : Value} {xs : List Value} (h : w.ownsRow base 3 1 v n xs) : ∃ a cap, v = .slice a n cap := by
  rcases h.2 with ⟨rfl, rfl, _⟩ | ⟨g, cap, cur, rfl, _⟩
  · exact ⟨_, _, rfl⟩
  · exact ⟨_, _, rfl⟩
theorem own_lti {w : World} {base n : Nat} {v : Value} {xs : List Value} (h : w.ownsRow base 3 1 v n xs) : ∀ g, v.ownBlock = some g → base ≤ g := fun g hg => (h.lt g hg).1
theorem own_grown1 {w w' : World} {b n g : Nat} {v : Value} {xs : List Value} (h : w.ownsRow b 3 1 v n xs) (hg : w.grownBy w' (some g)) (hn : v.ownBlock ≠ some g) : w'.ownsRow b 3 1 v n xs := h.kept hg (.inr hn)
theorem later_owni {w w' : World} {b : Nat} {v : Value} {n : Nat} {xs : List Value} (h : w.ownsRow b 3 1 v n xs) (hb : Later w w') : w'.ownsRow b 3 1 v n xs :=
  h.kept (row := none) ⟨hb.os, hb.tape, hb.output, hb.size, fun k hk _ => hb.block k hk⟩ (by cases h : v.ownBlock <;> simp)

def goodRg (lo hi : Int) : Value → Bool
  | .int .i64 n => decide (lo ≤ n) && decide (n ≤ hi)
  | _ => false
theorem goodRg_get {lo hi : Int} {cs : Array Value} (h : cs.toList.all (goodRg lo hi) = true) {j : Nat} (hj : j < cs.size) : ∃ n : Int, cs[j]? = some (.int .i64 n) ∧ lo ≤ n ∧ n ≤ hi := by
  have h1 : cs[j]? = some cs[j] := Array.getElem?_eq_getElem hj
  have h2 : goodRg lo hi cs[j] = true := List.all_eq_true.1 h _ (by simp)
  unfold goodRg at h2
  split at h2
  · rename_i n e
    rw [Bool.and_eq_true, decide_eq_true_eq, decide_eq_true_eq] at h2
    exact ⟨n, by rw [h1, e], h2⟩
  · cases h2
/-- One of the numbers of a list is picked. -/
theorem pick_in {B K : Nat} {a : Option Addr} {len cap : Nat} {w0 w : World} (h : At B K a len cap w0 w) (lo hi : Int) (cs : Array Value) (m : Nat) (hm : cs.size = m) (h0 : 0 < m) (h1 : m ≤ 1000) (hg : cs.toList.all (goodRg lo hi) = true) :
    Calls Try.prog 40 #[.pointer (some ⟨K, 0, none⟩), .slice (some ⟨w.heap.size, 0, none⟩) m m] (w.alloc (.cells cs 3)) fun e w' => ∃ v : Int, e = .returned (.int .i64 v) ∧ lo ≤ v ∧ v ≤ hi ∧ At B K a len cap w0 w' := by
  have h2 := h.alloc (.cells cs 3)
  have hL : w.heap.size ≠ K := by have := h.cur.hK; omega
  have hLs : w.heap.size < (w.alloc (.cells cs 3)).heap.size := by simp
  have hcs : ∀ j, j < m → ∃ v : Int, (w.alloc (.cells cs 3)).cell? ⟨w.heap.size, j, none⟩ = some (.int .i64 v) ∧ lo ≤ v ∧ v ≤ hi := fun j hj => by
    obtain ⟨n, hn, hr⟩ := goodRg_get hg (j := j) (by omega)
    exact ⟨n, by rw [← hn]; simp, hr⟩
  have h3 := h2.only
  have h4 := h2.cur
  clear h2 hg hm
  generalize w.alloc (.cells cs 3) = w1 at *
  generalize w.heap.size = L at *
  have hm0 : (0 : Int) < (m : Int) := by omega
  have hm1 : (m : Int) ≤ 2147483647 := by omega
  go_enter Try.func40, Try.ntmps40
  go_wp2_with (go_at_call 41; refine (below_at (At.start h4) _ hm0 hm1).mono ?_; rintro e w2 ⟨v, rfl, v0, v1, hc1⟩; obtain ⟨z, hz, hzr⟩ := hcs v.toNat (by omega); have hz1 : w2.cell? ⟨L, v.toNat, none⟩ = some (.int .i64 z) := ((World.cell?_of_block (w := w1) (hc1.only.block L hLs hL)).trans hz))
  go_ret
  exact ⟨_, rfl, hzr.1, hzr.2, hc1.cur, h3.trans hc1.only⟩

set_option maxRecDepth 20000 in
set_option maxHeartbeats 1000000 in
theorem largs_any {B K : Nat} {a : Option Addr} {len cap : Nat} {w0 w : World} (h : At B K a len cap w0 w) :
    Calls Try.prog 39 #[.pointer (some ⟨K, 0, none⟩)] w fun e w' => ∃ (av : Option Addr) (n pv : Nat) (f : Int), e = .returned (.tuple #[.slice av n pv, .int .i64 f]) ∧ n ≤ 101 ∧ -1 ≤ f ∧ f ≤ 200001 ∧ At B K a len cap w0 w' := by
  obtain ⟨i0, hi, hz0, hz1, hz2⟩ := info_parts Try.info3
  have hK := h.cur.hK
  have hw0 := h.only.size
  go_enter Try.func39, Try.ntmps39
  go_wp2_with fail
  refine (below_at (At.start h.cur) 6 (by decide) (by decide)).mono ?_
  rintro e w1 ⟨nn, rfl, n0, n1, hA1⟩
  have hs1 : w.heap.size ≤ w1.heap.size := hA1.only.size
  replace hA1 := h.origin hA1
  go_wp2_with fail
  go_loopw [4, 6] (fun v ii wr => ∃ (k : Nat) (zs : List Value), ii = .int .i64 (k : Int) ∧ (k : Int) ≤ nn ∧ wr.ownsRow w.heap.size 3 1 v k zs ∧ At B K a len cap w0 wr ∧ w.heap.size ≤ wr.heap.size) (fun _ ii _ => (nn - intOf ii).toNat)
  case atStart => exact ⟨0, [], rfl, n0, World.ownsRow_nil _ _ _ _, hA1, hs1⟩
  case round =>
    obtain ⟨k, zs, rfl, hk, ho, hA, hsw⟩ := hrel
    obtain ⟨av, pv, rfl⟩ := own_slicei ho
    by_cases hlt : (k : Int) < nn
    · have hKo : (Value.slice av k pv).ownBlock ≠ some K := fun e => by have := own_lti ho K e; omega
      go_wp2_with fail
      refine (int_at (At.start hA.cur)).mono ?_
      rintro e w2 ⟨z, rfl, hz, hA2⟩
      have ho2 := own_grown1 ho hA2.only.grown hKo
      have hA' := hA.origin hA2
      have hs2 := hA2.only.size
      go_wp2_with (at_builtin; refine wpList_append_own _ rfl _ _ 23 rfl w.heap.size 3 i0 (.int .i64 0) 1 8 Try.underlying23 hi hz0 hz1 hz2 rfl (by decide) _ _ _ rfl (ho2.alloc _) ⟨w2.heap.size, 0, none⟩ 1 1 [.int .i64 z] rfl rfl (new_onei _ _) (by simp [Value.oneCell']) (by unfold maxLen; omega) (by omega) (by simp; omega) ?_; intro v3 w3 ho3 hg3 _; obtain ⟨a3, p3, rfl⟩ := own_slicei ho3)
      have YA := at_grown (hA'.alloc _) hg3 (fun g hg => by have := own_lti ho2 g hg; omega)
      have hs3 := hg3.size
      simp at hs3
      go_wp2_with fail
      go_roundw
      case rel => exact ⟨k + 1, _, by go_num, by omega, ho3, YA, by omega⟩
      case measure => simp [intOf]; omega
    · have hlt' : decide ((k : Int) < nn) = false := by simp; omega
      have hk6 : k ≤ 101 := by omega
      go_wp2_with fail
      refine (pick_in hA (-1) 200001 _ 7 rfl (by decide) (by decide) (by decide +kernel)).mono ?_
      rintro e w2 ⟨f, rfl, f0, f1, hA2⟩
      clear hA ho hsw
      go_wp2_with fail
      refine (once_at hA2 25 (by decide) (by decide)).mono ?_
      rintro e w3 ⟨b3, rfl, hA3⟩
      clear hA2
      cases b3
      · skip
        go_wp2_with fail
        refine (once_at hA3 40 (by decide) (by decide)).mono ?_
        rintro e w5 ⟨b5, rfl, hA5⟩
        cases b5
        · go_wp2_with fail
          exact bodyPost_ret (v := .tuple #[.slice av k pv, .int .i64 f]) (by simp [results, Try.results39, go_sem]) rfl ⟨_, _, _, _, rfl, hk6, f0, f1, hA5⟩
        · go_wp2_with fail
          refine (below_at hA5 2 (by decide) (by decide)).mono ?_
          rintro e w6 ⟨x, rfl, x0, x1, hA6⟩
          rcases (show x = 0 ∨ x = 1 by omega) with rfl | rfl
          · go_wp2_with (at_make; refine wpList_make_full _ rfl _ _ 23 rfl w6.heap.size 3 i0 (.int .i64 0) 1 Try.underlying23 hi hz0 hz1 .i64 .i64 _ _ 100 rfl rfl rfl rfl (by rw [hz2]; omega) (by unfold maxLen; omega) (Nat.le_refl _) ?_; intro w7 hown hgr)
            exact bodyPost_ret (v := .tuple #[.slice (some ⟨w6.heap.size, 0, none⟩) 100 100, .int .i64 f]) (by simp [results, Try.results39, go_sem]) rfl ⟨_, _, _, _, rfl, by decide, f0, f1, hA6.later ((Below.refl _ _).grown hgr (Nat.le_refl _) (fun k h => by cases h))⟩
          · go_wp2_with (at_make; refine wpList_make_full _ rfl _ _ 23 rfl w6.heap.size 3 i0 (.int .i64 0) 1 Try.underlying23 hi hz0 hz1 .i64 .i64 _ _ 101 rfl rfl rfl rfl (by rw [hz2]; omega) (by unfold maxLen; omega) (Nat.le_refl _) ?_; intro w7 hown hgr)
            exact bodyPost_ret (v := .tuple #[.slice (some ⟨w6.heap.size, 0, none⟩) 101 101, .int .i64 f]) (by simp [results, Try.results39, go_sem]) rfl ⟨_, _, _, _, rfl, by decide, f0, f1, hA6.later ((Below.refl _ _).grown hgr (Nat.le_refl _) (fun k h => by cases h))⟩
      · go_wp2_with fail
        refine (pick_in hA3 (-1) 200001 _ 2 rfl (by decide) (by decide) (by decide +kernel)).mono ?_
        rintro e w4 ⟨f4, rfl, g0, g1, hA4⟩
        go_wp2_with fail
        refine (once_at hA4 40 (by decide) (by decide)).mono ?_
        rintro e w5 ⟨b5, rfl, hA5⟩
        cases b5
        · go_wp2_with fail
          exact bodyPost_ret (v := .tuple #[.slice av k pv, .int .i64 f4]) (by simp [results, Try.results39, go_sem]) rfl ⟨_, _, _, _, rfl, hk6, g0, g1, hA5⟩
        · go_wp2_with fail
          refine (below_at hA5 2 (by decide) (by decide)).mono ?_
          rintro e w6 ⟨x, rfl, x0, x1, hA6⟩
          rcases (show x = 0 ∨ x = 1 by omega) with rfl | rfl
          · go_wp2_with (at_make; refine wpList_make_full _ rfl _ _ 23 rfl w6.heap.size 3 i0 (.int .i64 0) 1 Try.underlying23 hi hz0 hz1 .i64 .i64 _ _ 100 rfl rfl rfl rfl (by rw [hz2]; omega) (by unfold maxLen; omega) (Nat.le_refl _) ?_; intro w7 hown hgr)
            exact bodyPost_ret (v := .tuple #[.slice (some ⟨w6.heap.size, 0, none⟩) 100 100, .int .i64 f4]) (by simp [results, Try.results39, go_sem]) rfl ⟨_, _, _, _, rfl, by decide, g0, g1, hA6.later ((Below.refl _ _).grown hgr (Nat.le_refl _) (fun k h => by cases h))⟩
          · go_wp2_with (at_make; refine wpList_make_full _ rfl _ _ 23 rfl w6.heap.size 3 i0 (.int .i64 0) 1 Try.underlying23 hi hz0 hz1 .i64 .i64 _ _ 101 rfl rfl rfl rfl (by rw [hz2]; omega) (by unfold maxLen; omega) (Nat.le_refl _) ?_; intro w7 hown hgr)
            exact bodyPost_ret (v := .tuple #[.slice (some ⟨w6.heap.size, 0, none⟩) 101 101, .int .i64 f4]) (by simp [results, Try.results39, go_sem]) rfl ⟨_, _, _, _, rfl, by decide, g0, g1, hA6.later ((Below.refl _ _).grown hgr (Nat.le_refl _) (fun k h => by cases h))⟩
/-- A setup's five cells. -/
structure S5 (w : World) (b : Nat) (c0 c1 c2 c3 c4 : Value) : Prop where
  lt : b < w.heap.size
  k0 : w.cell? ⟨b, 0, none⟩ = some c0
  f0 : w.frozen? ⟨b, 0, none⟩ = false
  k1 : w.cell? ⟨b, 1, none⟩ = some c1
  f1 : w.frozen? ⟨b, 1, none⟩ = false
  k2 : w.cell? ⟨b, 2, none⟩ = some c2
  f2 : w.frozen? ⟨b, 2, none⟩ = false
  k3 : w.cell? ⟨b, 3, none⟩ = some c3
  f3 : w.frozen? ⟨b, 3, none⟩ = false
  k4 : w.cell? ⟨b, 4, none⟩ = some c4
  f4 : w.frozen? ⟨b, 4, none⟩ = false
theorem S5.block {w w' : World} {b : Nat} {c0 c1 c2 c3 c4 : Value} (h : S5 w b c0 c1 c2 c3 c4) (hb : w'.heap[b]? = w.heap[b]?) (hs : w.heap.size ≤ w'.heap.size) : S5 w' b c0 c1 c2 c3 c4 :=
  ⟨Nat.lt_of_lt_of_le h.lt hs, (World.cell?_of_block (a := ⟨b, 0, none⟩) hb).trans h.k0, (World.frozen?_of_block (a := ⟨b, 0, none⟩) hb).trans h.f0, (World.cell?_of_block (a := ⟨b, 1, none⟩) hb).trans h.k1, (World.frozen?_of_block (a := ⟨b, 1, none⟩) hb).trans h.f1, (World.cell?_of_block (a := ⟨b, 2, none⟩) hb).trans h.k2, (World.frozen?_of_block (a := ⟨b, 2, none⟩) hb).trans h.f2, (World.cell?_of_block (a := ⟨b, 3, none⟩) hb).trans h.k3, (World.frozen?_of_block (a := ⟨b, 3, none⟩) hb).trans h.f3, (World.cell?_of_block (a := ⟨b, 4, none⟩) hb).trans h.k4, (World.frozen?_of_block (a := ⟨b, 4, none⟩) hb).trans h.f4⟩
theorem S5.later {w w' : World} {b : Nat} {c0 c1 c2 c3 c4 : Value} (h : S5 w b c0 c1 c2 c3 c4) (l : Later w w') : S5 w' b c0 c1 c2 c3 c4 := h.block (l.block b h.lt) l.size
theorem S5.grown {w w' : World} {b g : Nat} {c0 c1 c2 c3 c4 : Value} (h : S5 w b c0 c1 c2 c3 c4) (hg : w.grownBy w' (some g)) (hn : b ≠ g) : S5 w' b c0 c1 c2 c3 c4 := h.block (hg.block b h.lt (by simpa using hn)) hg.size
theorem S5.grown' {w w' : World} {b : Nat} {u : Value} {c0 c1 c2 c3 c4 : Value} (h : S5 w b c0 c1 c2 c3 c4) (hg : w.grownBy w' u.ownBlock) (hn : ∀ g, u.ownBlock = some g → b ≠ g) : S5 w' b c0 c1 c2 c3 c4 := h.block (hg.block b h.lt (fun e => hn b e.symm rfl)) hg.size
theorem S5.far {w : World} {b c o : Nat} {c0 c1 c2 c3 c4 : Value} (h : S5 w b c0 c1 c2 c3 c4) (v : Value) (hn : b ≠ c) : S5 (w.setCell ⟨c, o, none⟩ v) b c0 c1 c2 c3 c4 := h.block (Below.heap_setCell _ _ _ _ hn) (by simp)
theorem S5.set0 {w : World} {b : Nat} {c0 c1 c2 c3 c4 : Value} (h : S5 w b c0 c1 c2 c3 c4) (v : Value) : S5 (w.setCell ⟨b, 0, none⟩ v) b v c1 c2 c3 c4 :=
  ⟨by simpa using h.lt, set_same h.k0, by rw [World.frozen?_setCell]; exact h.f0, (set_off w b v (by decide)).trans h.k1, by rw [World.frozen?_setCell]; exact h.f1, (set_off w b v (by decide)).trans h.k2, by rw [World.frozen?_setCell]; exact h.f2, (set_off w b v (by decide)).trans h.k3, by rw [World.frozen?_setCell]; exact h.f3, (set_off w b v (by decide)).trans h.k4, by rw [World.frozen?_setCell]; exact h.f4⟩
theorem S5.set1 {w : World} {b : Nat} {c0 c1 c2 c3 c4 : Value} (h : S5 w b c0 c1 c2 c3 c4) (v : Value) : S5 (w.setCell ⟨b, 1, none⟩ v) b c0 v c2 c3 c4 :=
  ⟨by simpa using h.lt, (set_off w b v (by decide)).trans h.k0, by rw [World.frozen?_setCell]; exact h.f0, set_same h.k1, by rw [World.frozen?_setCell]; exact h.f1, (set_off w b v (by decide)).trans h.k2, by rw [World.frozen?_setCell]; exact h.f2, (set_off w b v (by decide)).trans h.k3, by rw [World.frozen?_setCell]; exact h.f3, (set_off w b v (by decide)).trans h.k4, by rw [World.frozen?_setCell]; exact h.f4⟩
theorem S5.set4 {w : World} {b : Nat} {c0 c1 c2 c3 c4 : Value} (h : S5 w b c0 c1 c2 c3 c4) (v : Value) : S5 (w.setCell ⟨b, 4, none⟩ v) b c0 c1 c2 c3 v :=
  ⟨by simpa using h.lt, (set_off w b v (by decide)).trans h.k0, by rw [World.frozen?_setCell]; exact h.f0, (set_off w b v (by decide)).trans h.k1, by rw [World.frozen?_setCell]; exact h.f1, (set_off w b v (by decide)).trans h.k2, by rw [World.frozen?_setCell]; exact h.f2, (set_off w b v (by decide)).trans h.k3, by rw [World.frozen?_setCell]; exact h.f3, set_same h.k4, by rw [World.frozen?_setCell]; exact h.f4⟩
end Go.Proofs.Ytlfkjjnhlkaipaa
