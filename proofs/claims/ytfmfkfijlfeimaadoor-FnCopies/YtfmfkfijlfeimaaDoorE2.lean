/- Places that are drawn, and what StoreWord's and CopyWords' draws hand out. -/
import Derived.Test.YtfmfkfijlfeimaaDoorE1
import Derived.Test.YtfmfkfijlfeimaaDoorD4
namespace Go.Proofs.YtfmfkfijlfeimaaDoor
open Go.RowKit

theorem pick6_at {B K : Nat} {a : Option Addr} {len cap : Nat} {w0 w : World} (h : At B K a len cap w0 w) (n : Int) (h0 : 0 ≤ n) (h1 : n ≤ 20) :
    Calls Tryd.prog 40 #[.pointer (some ⟨K, 0, none⟩), .slice (some ⟨w.heap.size, 0, none⟩) 6 6] (w.alloc (.cells #[.int .i64 (-1), .int .i64 n, .int .i64 (n + 1), .int .i64 (n - 1), .int .i64 9223372036854775807, .int .i64 (-9223372036854775808)] 3)) fun e w' => ∃ v : Int, e = .returned (.int .i64 v) ∧ InR v ∧ At B K a len cap w0 w' := by
  refine pick_at h _ 6 rfl (by decide) (by decide) ?_
  have a1 : (decide (-9223372036854775808 ≤ n) && decide (n ≤ 9223372036854775807)) = true := by simp; omega
  have a2 : (decide (-9223372036854775808 ≤ n + 1) && decide (n + 1 ≤ 9223372036854775807)) = true := by simp; omega
  have a3 : (decide (-9223372036854775808 ≤ n - 1) && decide (n - 1 ≤ 9223372036854775807)) = true := by simp; omega
  show (goodInt _ && (goodInt _ && (goodInt _ && (goodInt _ && (goodInt _ && (goodInt _ && true)))))) = true
  simp only [goodInt, a1, a2, a3]
  decide

set_option maxRecDepth 20000 in
set_option maxHeartbeats 400000 in
theorem place_at {B K : Nat} {a : Option Addr} {len cap : Nat} {w0 w : World} (h : At B K a len cap w0 w) (n : Int) (h0 : 0 ≤ n) (h1 : n ≤ 20) :
    Calls Tryd.prog 24 #[.pointer (some ⟨K, 0, none⟩), .int .i64 n] w fun e w' => ∃ v : Int, e = .returned (.int .i64 v) ∧ InR v ∧ At B K a len cap w0 w' := by
  go_enter Tryd.func24, Tryd.ntmps24
  go_wp2_with (first | (go_at_call 39; refine (once_at h _ (by decide) (by decide)).mono ?_; rintro e w1 ⟨b, rfl, hc1⟩) | (go_at_call 40; refine (pick6_at hc1 n h0 h1).mono ?_; rintro e w2 ⟨v, rfl, hv, hc2⟩) | (go_at_call 38; refine (below_at hc1 (n + 1) (by omega) (by omega)).mono ?_; rintro e w2 ⟨v, rfl, v0, v1, hc2⟩))
  · go_ret
    exact ⟨_, rfl, hv, hc2⟩
  · go_ret
    exact ⟨_, rfl, by unfold InR; omega, hc2⟩

set_option maxHeartbeats 1000000 in
theorem drawstore_any {a : Option Addr} {len : Nat} (cap : Nat) {w : World} (hb : Bytes w a len) :
    Calls Tryd.prog 8 #[.slice a len cap] w fun e w' => ∃ (v : Value) (zs : List Int) (p x : Int), e = .returned (.tuple #[.agg #[v], .int .i64 p, .int .i64 x]) ∧ zs.length ≤ 20 ∧ InR p ∧ InR x ∧ w'.ownsRow w.heap.size 3 1 v zs.length (zs.map (Value.int .i64)) ∧ Later w w' := by
  have V2 : Var (w.alloc (.cells #[.slice none 0 0] 25)) w.heap.size (.slice none 0 0) := ⟨⟨by simp, by simp⟩, by simp⟩
  have L0 : Later w (w.alloc (.cells #[.slice none 0 0] 25)) := later1 _ _
  have hs0 : (w.alloc (.cells #[.slice none 0 0] 25)).heap.size = w.heap.size + 1 := by simp
  go_enter Tryd.func8, Tryd.ntmps8
  go_wp2_with fail
  refine (new_at cap (hb.later L0)).mono ?_
  rintro e w1 ⟨K, rfl, hat, hlat, hK⟩
  rw [hs0] at hK
  replace V2 := V2.later hlat
  replace L0 := L0.trans hlat
  clear hlat
  go_wp2_with fail
  refine (l2mem_any hat).mono ?_
  rintro e w2 ⟨v, zs, rfl, hzl, hzr, ho, hat2⟩
  obtain ⟨av, pv, rfl⟩ := own_slice ho
  have V2b := V2.grown hat2.only.grown (by omega)
  have L2 : Later w w2 := Below.trans L0 (hat2.only.below (by omega) L0.size)
  have ltv := own_lt ho
  have hK1 := hat.cur.hK
  have s2 := hat2.only.size
  have t2 := V2b.box.lt
  clear V2 L0
  go_wp2_with fail
  have V6 : Var (w2.alloc (.cells #[.slice av zs.length pv] 25)) w2.heap.size (.slice av zs.length pv) := ⟨Box.new _ _ _, by simp⟩
  have W2 := later1 w2 (.cells #[.slice av zs.length pv] 25)
  replace V2b := V2b.later W2
  replace ho := later_own ho W2
  have hat3 := At.start (hat2.later W2).cur
  replace L2 := L2.trans W2
  have t6 := V6.box.lt
  have t2' := V2b.box.lt
  have hlw := L2.size
  clear hat hat2 W2 hb
  generalize w2.alloc (.cells #[.slice av zs.length pv] 25) = W at *
  generalize w2.heap.size = b6 at *
  have hat3D := hat3.later (Later.drew _)
  have c6 := V6.box.cell
  have c2 := V2b.box.cell
  have f2 := V2b.free
  have hzn : (zs.length : Int) ≤ 20 := by omega
  go_region_with (first | (go_at_call 24; refine (place_at (by assumption) _ (by omega) (by omega)).mono ?_; rintro e w4 ⟨p, rfl, hp, hc4⟩; have V64 := V6.grown hc4.only.grown (by omega); have V24 := V2b.grown hc4.only.grown (by omega); have c64 := V64.box.cell; have c24 := V24.box.cell; have f24 := V24.free) | (go_at_call 25; refine (int_at (by assumption)).mono ?_; rintro e w5 ⟨x, rfl, hx, hc5⟩; have V65 := V6.grown hc5.only.grown (by omega); have V25 := V2b.grown hc5.only.grown (by omega); have c65 := V65.box.cell; have c25 := V25.box.cell; have f25 := V25.free))
  all_goals
    go_wp2_with fail
    have BR := V25.set (.slice av zs.length pv)
    have cr := BR.box.cell
    have ho5 := own_grown1 ho hc5.only.grown (fun e => by have := ltv K e; omega)
    refine bodyPost_ret (v := .tuple #[.agg #[.slice av zs.length pv], .int .i64 p, .int .i64 x]) (by simp [results, Tryd.results8, go_sem, cr]) rfl ⟨_, zs, p, x, rfl, hzl, hp, hx, ?_, ?_⟩
    · exact own_mono (ownsRow_setCell_below ho5 (by simp; omega) _) (by omega)
    · exact Below.setCell (Below.trans L2 (hc5.only.below (by omega) hlw)) (Nat.le_refl _) _

end Go.Proofs.YtfmfkfijlfeimaaDoor
