/- What CopyWords' draw hands out. -/
import Derived.Test.YtfmfkfijlfeimaaDoorE2
import Derived.Deep.RegionHeld
namespace Go.Proofs.YtfmfkfijlfeimaaDoor
open Go.RowKit

set_option maxHeartbeats 1000000 in
theorem drawcopy_any {a : Option Addr} {len : Nat} (cap : Nat) {w : World} (hb : Bytes w a len) :
    Calls Tryd.prog 12 #[.slice a len cap] w fun e w' => ∃ (v : Value) (zs : List Int) (p q r : Int), e = .returned (.tuple #[.agg #[v], .int .i64 p, .int .i64 q, .int .i64 r]) ∧ zs.length ≤ 20 ∧ InR p ∧ InR q ∧ InR r ∧ w'.ownsRow w.heap.size 3 1 v zs.length (zs.map (Value.int .i64)) ∧ Later w w' := by
  have V2 : Var (w.alloc (.cells #[.slice none 0 0] 25)) w.heap.size (.slice none 0 0) := ⟨⟨by simp, by simp⟩, by simp⟩
  have L0 : Later w (w.alloc (.cells #[.slice none 0 0] 25)) := later1 _ _
  have hs0 : (w.alloc (.cells #[.slice none 0 0] 25)).heap.size = w.heap.size + 1 := by simp
  go_enter Tryd.func12, Tryd.ntmps12
  go_wp2_with fail
  refine (new_at cap (hb.later L0)).mono ?_
  rintro e w1 ⟨K, rfl, hat, hlat, hK⟩
  rw [hs0] at hK
  replace V2 := V2.later hlat
  replace L0 := L0.trans hlat
  clear hlat
  go_wp2_with fail
  refine (l2mem_any hat).mono ?_
  rintro e w2 ⟨v, zs, rfl, hzl, hzr, ho, hat2⟩
  obtain ⟨av, pv, rfl⟩ := own_slice ho
  have V2b := V2.grown hat2.only.grown (by omega)
  have L2 : Later w w2 := Below.trans L0 (hat2.only.below (by omega) L0.size)
  have ltv := own_lt ho
  have hK1 := hat.cur.hK
  have s2 := hat2.only.size
  have t2 := V2b.box.lt
  clear V2 L0
  go_wp2_with fail
  have V6 : Var (w2.alloc (.cells #[.slice av zs.length pv] 25)) w2.heap.size (.slice av zs.length pv) := ⟨Box.new _ _ _, by simp⟩
  have W2 := later1 w2 (.cells #[.slice av zs.length pv] 25)
  replace V2b := V2b.later W2
  replace ho := later_own ho W2
  have hat3 := At.start (hat2.later W2).cur
  replace L2 := L2.trans W2
  have t6 := V6.box.lt
  have t2' := V2b.box.lt
  have hlw := L2.size
  clear hat hat2 W2 hb
  generalize w2.alloc (.cells #[.slice av zs.length pv] 25) = W at *
  generalize w2.heap.size = b6 at *
  have hat3D := hat3.later (Later.drew _)
  have c6 := V6.box.cell
  have c2 := V2b.box.cell
  have f2 := V2b.free
  have hzn : (zs.length : Int) ≤ 20 := by omega
  have hzh : (zs.length : Int) / 2 ≤ 20 := by omega
  have hzh0 : 0 ≤ (zs.length : Int) / 2 := by omega
  have hzd : (zs.length : Int).tdiv 2 = (zs.length : Int) / 2 := Int.tdiv_eq_ediv_of_nonneg (by omega)
  have hwr : IntKind.i64.wrap ((zs.length : Int) / 2) = (zs.length : Int) / 2 := by rw [IntKind.wrap_i64]; omega
  go_region_held (fun w' => w'.cell? ⟨b6, 0, none⟩ = some (.slice av zs.length pv)) (first | assumption | (rw [set_block _ _ _ _ (by omega)]; assumption) | go_keep) (first | (have _g := hc5; go_at_call 24; (try rw [hwr]); refine (place_at (by assumption) _ (by omega) (by omega)).mono ?_; rintro e w6 ⟨r, rfl, hr, hc6⟩; have V66 := V6.grown hc6.only.grown (by omega); have V26 := V2b.grown hc6.only.grown (by omega); have c66 := V66.box.cell; have c26 := V26.box.cell; have f26 := V26.free) | (have _g := hc4; go_at_call 24; refine (place_at (by assumption) _ (by omega) (by omega)).mono ?_; rintro e w5 ⟨q, rfl, hq, hc5⟩; have V65 := V6.grown hc5.only.grown (by omega); have V25 := V2b.grown hc5.only.grown (by omega); have c65 := V65.box.cell; have c25 := V25.box.cell; have f25 := V25.free) | (go_at_call 24; refine (place_at (by assumption) _ (by omega) (by omega)).mono ?_; rintro e w4 ⟨p, rfl, hp, hc4⟩; have V64 := V6.grown hc4.only.grown (by omega); have V24 := V2b.grown hc4.only.grown (by omega); have c64 := V64.box.cell; have c24 := V24.box.cell; have f24 := V24.free))
  all_goals
    go_wp2_with fail
    have BR := V26.set (.slice av zs.length pv)
    have cr := BR.box.cell
    have ho6 := own_grown1 ho hc6.only.grown (fun e => by have := ltv K e; omega)
    refine bodyPost_ret (v := .tuple #[.agg #[.slice av zs.length pv], .int .i64 p, .int .i64 q, .int .i64 r]) (by simp [results, Tryd.results12, go_sem, cr]) rfl ⟨_, zs, p, q, r, rfl, hzl, hp, hq, hr, ?_, ?_⟩
    · exact own_mono (ownsRow_setCell_below ho6 (by simp; omega) _) (by omega)
    · exact Below.setCell (Below.trans L2 (hc6.only.below (by omega) hlw)) (Nat.le_refl _) _

end Go.Proofs.YtfmfkfijlfeimaaDoor
