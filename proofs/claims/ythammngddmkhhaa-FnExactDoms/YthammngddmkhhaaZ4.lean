/- The finder of ways: what it holds; a new one; a visit. -/
import Derived.Test.YthammngddmkhhaaZ2
import Derived.Test.YthammngddmkhhaaZ3
import Derived.Deep.Cut
import Derived.Deep.CutRange
namespace Go.Proofs.Ythammngddmkhhaa
open Go.RowKit

def vn (i : Nat) : Value := .int .i64 (i : Int)
/-- What the finder holds: blocks, seen, order, rank, nearest. -/
structure Wf (W w : World) (B K gs gr gn : Nat) (bv ov : Value) (n : Nat) (sn : List Bool) (od rk : List Nat) (ne : List Int) : Prop where
  lat : Later W w
  box : RX id (.bool false) w K [bv, .slice (some ⟨gs, 0, none⟩) n n, ov, .slice (some ⟨gr, 0, none⟩) n n, .slice (some ⟨gn, 0, none⟩) n n]
  xs : RB w gs sn
  xr : RX vn 0 w gr rk
  xn : RI w gn ne
  own : w.ownsRow B 3 1 ov od.length (od.map vn)
  sl : sn.length = n
  rl : rk.length = n
  nl : ne.length = n
  base : W.heap.size ≤ K ∧ W.heap.size ≤ gs ∧ W.heap.size ≤ gr ∧ W.heap.size ≤ gn
  top : K < B ∧ gs < B ∧ gr < B ∧ gn < B
  ap : K ≠ gs ∧ K ≠ gr ∧ K ≠ gn ∧ gs ≠ gr ∧ gs ≠ gn ∧ gr ≠ gn
  bs : B ≤ w.heap.size
theorem own_block {w w' : World} {base : Nat} {e : TypeId} {size : Nat} {v : Value} {n : Nat} {xs : List Value} (h : w.ownsRow base e size v n xs) (hb : ∀ g, base ≤ g → g < w.heap.size → w'.heap[g]? = w.heap[g]?) : w'.ownsRow base e size v n xs := by
  refine ⟨h.1, ?_⟩
  rcases h.2 with hn | ⟨g, cap, cur, rfl, hb', hgg, rest⟩
  · exact .inl hn
  · exact .inr ⟨g, cap, cur, rfl, hb', by rw [hb g hb' (Array.getElem?_eq_some_iff.1 hgg).1]; exact hgg, rest⟩
section
variable {W w w' : World} {B K gs gr gn : Nat} {bv ov : Value} {n : Nat} {sn : List Bool} {od rk : List Nat} {ne : List Int}
theorem Wf.later (h : Wf W w B K gs gr gn bv ov n sn od rk ne) (l : Later w w') : Wf W w' B K gs gr gn bv ov n sn od rk ne :=
  ⟨h.lat.trans l, h.box.later l, h.xs.later l, h.xr.later l, h.xn.later l, own_block h.own (fun g _ hg => l.block g hg), h.sl, h.rl, h.nl, h.base, h.top, h.ap, Nat.le_trans h.bs l.size⟩
theorem Wf.cells (h : Wf W w B K gs gr gn bv ov n sn od rk ne) : w.cell? ⟨K, 0, none⟩ = some bv ∧ w.cell? ⟨K, 1, none⟩ = some (.slice (some ⟨gs, 0, none⟩) n n) ∧ w.cell? ⟨K, 2, none⟩ = some ov ∧ w.cell? ⟨K, 3, none⟩ = some (.slice (some ⟨gr, 0, none⟩) n n) ∧ w.cell? ⟨K, 4, none⟩ = some (.slice (some ⟨gn, 0, none⟩) n n) ∧ w.frozen? ⟨K, 2, none⟩ = false :=
  ⟨(h.box.at_ 0 (by simp)).1, (h.box.at_ 1 (by simp)).1, (h.box.at_ 2 (by simp)).1, (h.box.at_ 3 (by simp)).1, (h.box.at_ 4 (by simp)).1, (h.box.at_ 2 (by simp)).2⟩
theorem Wf.own_set (h : Wf W w B K gs gr gn bv ov n sn od rk ne) {g o : Nat} (hg : g < B) (v : Value) : (w.setCell ⟨g, o, none⟩ v).ownsRow B 3 1 ov od.length (od.map vn) := own_block h.own (fun b hb _ => Below.heap_setCell _ _ _ _ (fun e => by have : b = g := e; omega))
theorem Wf.setSeen (h : Wf W w B K gs gr gn bv ov n sn od rk ne) (b : Nat) (hb : b < n) : Wf W (w.setCell ⟨gs, b, none⟩ (.bool true)) B K gs gr gn bv ov n (sn.set b true) od rk ne := by
  obtain ⟨a1, a2, a3, a4, a5, a6⟩ := h.ap
  exact ⟨Later.setAt h.lat h.base.2.1 _ _, h.box.other (Ne.symm a1) _, h.xs.set b (by rw [h.sl]; exact hb) true, h.xr.other a4 _, h.xn.other a5 _, h.own_set h.top.2.1 _, by rw [List.length_set]; exact h.sl, h.rl, h.nl, h.base, h.top, h.ap, by rw [World.size_setCell]; exact h.bs⟩
theorem Wf.setNe (h : Wf W w B K gs gr gn bv ov n sn od rk ne) (b : Nat) (hb : b < n) (v : Int) : Wf W (w.setCell ⟨gn, b, none⟩ (.int .i64 v)) B K gs gr gn bv ov n sn od rk (ne.set b v) := by
  obtain ⟨a1, a2, a3, a4, a5, a6⟩ := h.ap
  exact ⟨Later.setAt h.lat h.base.2.2.2 _ _, h.box.other (Ne.symm a3) _, h.xs.other (Ne.symm a5) _, h.xr.other (Ne.symm a6) _, h.xn.set b (by rw [h.nl]; exact hb) v, h.own_set h.top.2.2.2 _, h.sl, h.rl, by rw [List.length_set]; exact h.nl, h.base, h.top, h.ap, by rw [World.size_setCell]; exact h.bs⟩
theorem Wf.setRk (h : Wf W w B K gs gr gn bv ov n sn od rk ne) (b : Nat) (hb : b < n) (v : Nat) : Wf W (w.setCell ⟨gr, b, none⟩ (.int .i64 (v : Int))) B K gs gr gn bv ov n sn od (rk.set b v) ne := by
  obtain ⟨a1, a2, a3, a4, a5, a6⟩ := h.ap
  exact ⟨Later.setAt h.lat h.base.2.2.1 _ _, h.box.other (Ne.symm a2) _, h.xs.other (Ne.symm a4) _, h.xr.set b (by rw [h.rl]; exact hb) v, h.xn.other a6 _, h.own_set h.top.2.2.1 _, h.sl, by rw [List.length_set]; exact h.rl, h.nl, h.base, h.top, h.ap, by rw [World.size_setCell]; exact h.bs⟩
/-- One more in the order. -/
theorem Wf.put (h : Wf W w B K gs gr gn bv ov n sn od rk ne) {v' : Value} {b : Nat} (o : w'.ownsRow B 3 1 v' (od.length + 1) (od.map vn ++ [.int .i64 (b : Int)])) (g : w.grownBy w' ov.ownBlock) : Wf W (w'.setCell ⟨K, 2, none⟩ v') B K gs gr gn bv v' n sn (od ++ [b]) rk ne := by
  obtain ⟨a1, a2, a3, a4, a5, a6⟩ := h.ap
  obtain ⟨t1, t2, t3, t4⟩ := h.top
  have hlow : ∀ b, b < B → w'.heap[b]? = w.heap[b]? := fun b hb => g.block b (Nat.lt_of_lt_of_le hb h.bs) (fun e => by
    have := (h.own.lt b e.symm).1
    omega)
  have hl : Later W w' := ⟨g.os.trans h.lat.os, g.tape.trans h.lat.tape, g.output.trans h.lat.output, Nat.le_trans h.lat.size g.size, fun b hb => by rw [hlow b (by have := h.base.1; omega), h.lat.block b hb]⟩
  have hb := (h.box.block g.size (hlow K t1)).set 2 (by simp) v'
  have o' : w'.ownsRow B 3 1 v' (od ++ [b]).length ((od ++ [b]).map vn) := by rw [List.length_append, List.map_append]; exact o
  exact ⟨Later.setAt hl h.base.1 _ _, hb, (h.xs.block g.size (hlow gs t2)).other a1 _, (h.xr.block g.size (hlow gr t3)).other a2 _, (h.xn.block g.size (hlow gn t4)).other a3 _, own_block o' (fun b hb _ => Below.heap_setCell _ _ _ _ (fun e => by have : b = K := e; omega)), h.sl, h.rl, h.nl, h.base, h.top, h.ap, by rw [World.size_setCell]; exact Nat.le_trans h.bs g.size⟩
end
theorem buildWf (a0 : Option Addr) (n0 c0 : Nat) (a1 : Option Addr) (n1 c1 : Nat) (a2 : Option Addr) (n2 c2 : Nat) (a3 : Option Addr) (n3 c3 : Nat) (w : World) : (Instr.build 59 #[(0, .slice a0 n0 c0), (1, .slice a1 n1 c1), (3, .slice a2 n2 c2), (4, .slice a3 n3 c3)]).run Try.prog w = .ok (.agg #[.slice a0 n0 c0, .slice a1 n1 c1, .slice none 0 0, .slice a2 n2 c2, .slice a3 n3 c3]) w := run_build w 59 _ _ (by kernel_rfl)
theorem Try.info4 : (Try.prog.info? 4).map (fun i => (i.zero, i.size, i.bytes)) = some (some (.bool false), 1, 1) := by kernel_rfl
/-- A new finder. -/
def NewP (W : World) (bv : Value) (n : Nat) (e : Ending) (w' : World) : Prop := ∃ B K gs gr gn, e = .returned (.pointer (some ⟨K, 0, none⟩)) ∧ Wf W w' B K gs gr gn bv (.slice none 0 0) n (List.replicate n false) [] (List.replicate n 0) (List.replicate n (-1))
theorem set_rep (n j : Nat) (hj : j < n) : (List.replicate j (-1 : Int) ++ List.replicate (n - j) 0).set j (-1) = List.replicate (j + 1) (-1) ++ List.replicate (n - (j + 1)) 0 := by
  rw [List.set_append_right _ _ (by simp), List.length_replicate, Nat.sub_self, show n - j = (n - (j + 1)) + 1 by omega, List.replicate_succ, List.set_cons_zero, List.replicate_succ', List.append_assoc]
  rfl
/-- A row is made: in which world. -/
structure Mks {α : Type} (f : α → Value) (z : α) (n : Nat) (F : World → World) : Prop where
  row : ∀ d w, RX f d (F w) w.heap.size (List.replicate n z)
  grow : ∀ w, Later w (F w)
theorem Mks.lt {α : Type} {f : α → Value} {z : α} {n : Nat} {F : World → World} (h : Mks f z n F) (w : World) : w.heap.size < (F w).heap.size := (h.row z w).lt
theorem mks_int (n : Nat) (hn : n ≤ 400) : ∃ F : World → World, Mks (α := Int) (Value.int .i64) 0 n F ∧ ∀ w, (Instr.makeSlice 30 (.int .i64 (n : Int)) (.int .i64 (n : Int))).run Try.prog w = .ok (.slice (some ⟨w.heap.size, 0, none⟩) n n) (F w) := by
  obtain ⟨i0, hi, hz0, hz1, hz2⟩ := info_parts Try.info3
  have h := fun w => run_make_full (P := Try.prog) w w.heap.size 30 3 i0 (.int .i64 0) 1 Try.underlying30 hi hz0 hz1 .i64 .i64 n (by rw [hz2]; omega) (by unfold maxLen; omega) (Nat.le_refl _)
  exact ⟨fun w => Classical.choose (h w), ⟨fun d w => RX.made rfl (Classical.choose_spec (h w)).2.1, fun w => grown_later (Classical.choose_spec (h w)).2.2⟩, fun w => (Classical.choose_spec (h w)).1⟩
theorem mks_bool (n : Nat) (hn : n ≤ 400) : ∃ F : World → World, Mks (α := Bool) Value.bool false n F ∧ ∀ w, (Instr.makeSlice 57 (.int .i64 (n : Int)) (.int .i64 (n : Int))).run Try.prog w = .ok (.slice (some ⟨w.heap.size, 0, none⟩) n n) (F w) := by
  obtain ⟨i0, hi, hz0, hz1, hz2⟩ := info_parts Try.info4
  have h := fun w => run_make_full (P := Try.prog) w w.heap.size 57 4 i0 (.bool false) 1 Try.underlying57 hi hz0 hz1 .i64 .i64 n (by rw [hz2]; omega) (by unfold maxLen; omega) (Nat.le_refl _)
  exact ⟨fun w => Classical.choose (h w), ⟨fun d w => RX.made rfl (Classical.choose_spec (h w)).2.1, fun w => grown_later (Classical.choose_spec (h w)).2.2⟩, fun w => (Classical.choose_spec (h w)).1⟩
/-- Three rows and a box, made one behind the other. -/
theorem made3 {α β γ : Type} {fa : α → Value} {fb : β → Value} {fc : γ → Value} {za : α} {zb : β} {zc : γ} {n : Nat} {Fa Fb Fc : World → World} (ha : Mks fa za n Fa) (hb : Mks fb zb n Fb) (hc : Mks fc zc n Fc) (w : World) (o : Obj) :
    (RX fa za ((Fc (Fb (Fa w))).alloc o) w.heap.size (List.replicate n za) ∧ RX fb zb ((Fc (Fb (Fa w))).alloc o) (Fa w).heap.size (List.replicate n zb) ∧ RX fc zc ((Fc (Fb (Fa w))).alloc o) (Fb (Fa w)).heap.size (List.replicate n zc)) ∧ Later w ((Fc (Fb (Fa w))).alloc o) ∧ w.heap.size < (Fa w).heap.size ∧ (Fa w).heap.size < (Fb (Fa w)).heap.size ∧ (Fb (Fa w)).heap.size < (Fc (Fb (Fa w))).heap.size := by
  have l1 := (hb.grow (Fa w)).trans ((hc.grow (Fb (Fa w))).trans (later1 _ o))
  have l2 := (hc.grow (Fb (Fa w))).trans (later1 _ o)
  exact ⟨⟨(ha.row za w).later l1, (hb.row zb (Fa w)).later l2, (hc.row zc (Fb (Fa w))).later (later1 _ o)⟩, (ha.grow w).trans l1, ha.lt w, hb.lt _, hc.lt _⟩
theorem rx_vn {w : World} {g n : Nat} (h : RX (α := Int) (Value.int .i64) 0 w g (List.replicate n 0)) : RX vn 0 w g (List.replicate n 0) := ⟨h.lt, fun j hj => by
  rw [List.length_replicate] at hj
  have := h.at_ j (by rw [List.length_replicate]; exact hj)
  rw [List.getD_eq_getElem?_getD, List.getElem?_replicate, if_pos hj] at this ⊢
  exact this⟩
theorem fz_of {w : World} {g : Nat} {cs : Array Value} {t : TypeId} (hr : w.heap[g]? = some (.cells cs t)) (o : Nat) : w.frozen? ⟨g, o, none⟩ = false := by simp [World.frozen?, hr]
theorem box_new (w : World) (cs : List Value) (t : TypeId) : RX id (.bool false) (w.alloc (.cells cs.toArray t)) w.heap.size cs := ⟨by simp, fun j hj => by
  rw [List.getD_eq_getElem?_getD]
  refine ⟨?_, fz_of (cs := cs.toArray) (t := t) (by unfold World.alloc; simp) j⟩
  simp [hj]⟩
theorem wf_new {W w3 : World} {a : Option Addr} {n cap gs gr gn : Nat} (l : Later W w3) (b : W.heap.size ≤ gs ∧ W.heap.size ≤ gr ∧ W.heap.size ≤ gn) (t : gs < w3.heap.size ∧ gr < w3.heap.size ∧ gn < w3.heap.size) (ap : gs ≠ gr ∧ gs ≠ gn ∧ gr ≠ gn)
    (rs : RB (w3.alloc (.cells #[.slice a n cap, .slice (some ⟨gs, 0, none⟩) n n, .slice none 0 0, .slice (some ⟨gr, 0, none⟩) n n, .slice (some ⟨gn, 0, none⟩) n n] 59)) gs (List.replicate n false)) (rr : RI (w3.alloc (.cells #[.slice a n cap, .slice (some ⟨gs, 0, none⟩) n n, .slice none 0 0, .slice (some ⟨gr, 0, none⟩) n n, .slice (some ⟨gn, 0, none⟩) n n] 59)) gr (List.replicate n 0)) (rn : RI (w3.alloc (.cells #[.slice a n cap, .slice (some ⟨gs, 0, none⟩) n n, .slice none 0 0, .slice (some ⟨gr, 0, none⟩) n n, .slice (some ⟨gn, 0, none⟩) n n] 59)) gn (List.replicate n 0)) :
    ∃ B K gs' gr' gn', Value.pointer (some ⟨w3.heap.size, 0, none⟩) = .pointer (some ⟨K, 0, none⟩) ∧ Wf W (w3.alloc (.cells #[.slice a n cap, .slice (some ⟨gs, 0, none⟩) n n, .slice none 0 0, .slice (some ⟨gr, 0, none⟩) n n, .slice (some ⟨gn, 0, none⟩) n n] 59)) B K gs' gr' gn' (.slice a n cap) (.slice none 0 0) n (List.replicate n false) [] (List.replicate n 0) (List.replicate n 0) := by
  have hl := l.size
  exact ⟨w3.heap.size + 1, w3.heap.size, gs, gr, gn, rfl, l.trans (later1 _ _), box_new _ _ _, rs, rx_vn rr, rn, ⟨rfl, .inl ⟨rfl, rfl⟩⟩, List.length_replicate .., List.length_replicate .., List.length_replicate .., ⟨hl, b.1, b.2.1, b.2.2⟩, ⟨by omega, by omega, by omega, by omega⟩, ⟨by omega, by omega, by omega, ap.1, ap.2.1, ap.2.2⟩, by simp⟩
set_option maxRecDepth 20000 in
set_option maxHeartbeats 4000000 in
theorem new_any (W : World) (a : Option Addr) (n cap : Nat) (hn : n ≤ 400) : Calls Try.prog 23 #[.slice a n cap] W (NewP W (.slice a n cap) n) := by
  obtain ⟨FI, mI, rI⟩ := mks_int n hn
  obtain ⟨FB, mB, rB⟩ := mks_bool n hn
  have hBW := buildWf
  generalize hQ : NewP W (.slice a n cap) n = Q at *
  have hQ' : Hid (NewP W (.slice a n cap) n = Q) := hQ
  clear hQ
  go_enter Try.func23, Try.ntmps23
  go_upto_region 2 with fail
  go_cut [4] from 6 (fun s4 wc => ∃ B K gs gr gn, s4 = .pointer (some ⟨K, 0, none⟩) ∧ Wf W wc B K gs gr gn (.slice a n cap) (.slice none 0 0) n (List.replicate n false) [] (List.replicate n 0) (List.replicate n 0))
  case first =>
    go_region
    all_goals
      go_wp2_with fail
      go_meet
      case rel =>
        clear rI rB hBW
        first
        | (obtain ⟨⟨q1, q2, q3⟩, ql, s1, s2, s3⟩ := made3 mB mI mI W.drew (.cells #[.slice a n cap, .slice (some ⟨W.heap.size, 0, none⟩) n n, .slice none 0 0, .slice (some ⟨(FB W.drew).heap.size, 0, none⟩) n n, .slice (some ⟨(FI (FB W.drew)).heap.size, 0, none⟩) n n] 59)
           have hw : W.drew.heap.size = W.heap.size := rfl
           exact wf_new ((Later.drew _).trans ((mB.grow _).trans ((mI.grow _).trans (mI.grow _)))) ⟨by omega, by omega, by omega⟩ ⟨by omega, by omega, by omega⟩ ⟨by omega, by omega, by omega⟩ q1 q2 q3)
        | (obtain ⟨⟨q1, q2, q3⟩, ql, s1, s2, s3⟩ := made3 mB mI mI W.drew (.cells #[.slice a n cap, .slice (some ⟨W.heap.size, 0, none⟩) n n, .slice none 0 0, .slice (some ⟨(FI (FB W.drew)).heap.size, 0, none⟩) n n, .slice (some ⟨(FB W.drew).heap.size, 0, none⟩) n n] 59)
           have hw : W.drew.heap.size = W.heap.size := rfl
           exact wf_new ((Later.drew _).trans ((mB.grow _).trans ((mI.grow _).trans (mI.grow _)))) ⟨by omega, by omega, by omega⟩ ⟨by omega, by omega, by omega⟩ ⟨by omega, by omega, by omega⟩ q1 q3 q2)
        | (obtain ⟨⟨q1, q2, q3⟩, ql, s1, s2, s3⟩ := made3 mI mB mI W.drew (.cells #[.slice a n cap, .slice (some ⟨(FI W.drew).heap.size, 0, none⟩) n n, .slice none 0 0, .slice (some ⟨W.heap.size, 0, none⟩) n n, .slice (some ⟨(FB (FI W.drew)).heap.size, 0, none⟩) n n] 59)
           have hw : W.drew.heap.size = W.heap.size := rfl
           exact wf_new ((Later.drew _).trans ((mI.grow _).trans ((mB.grow _).trans (mI.grow _)))) ⟨by omega, by omega, by omega⟩ ⟨by omega, by omega, by omega⟩ ⟨by omega, by omega, by omega⟩ q2 q1 q3)
        | (obtain ⟨⟨q1, q2, q3⟩, ql, s1, s2, s3⟩ := made3 mI mB mI W.drew (.cells #[.slice a n cap, .slice (some ⟨(FI W.drew).heap.size, 0, none⟩) n n, .slice none 0 0, .slice (some ⟨(FB (FI W.drew)).heap.size, 0, none⟩) n n, .slice (some ⟨W.heap.size, 0, none⟩) n n] 59)
           have hw : W.drew.heap.size = W.heap.size := rfl
           exact wf_new ((Later.drew _).trans ((mI.grow _).trans ((mB.grow _).trans (mI.grow _)))) ⟨by omega, by omega, by omega⟩ ⟨by omega, by omega, by omega⟩ ⟨by omega, by omega, by omega⟩ q2 q3 q1)
        | (obtain ⟨⟨q1, q2, q3⟩, ql, s1, s2, s3⟩ := made3 mI mI mB W.drew (.cells #[.slice a n cap, .slice (some ⟨(FI (FI W.drew)).heap.size, 0, none⟩) n n, .slice none 0 0, .slice (some ⟨W.heap.size, 0, none⟩) n n, .slice (some ⟨(FI W.drew).heap.size, 0, none⟩) n n] 59)
           have hw : W.drew.heap.size = W.heap.size := rfl
           exact wf_new ((Later.drew _).trans ((mI.grow _).trans ((mI.grow _).trans (mB.grow _)))) ⟨by omega, by omega, by omega⟩ ⟨by omega, by omega, by omega⟩ ⟨by omega, by omega, by omega⟩ q3 q1 q2)
        | (obtain ⟨⟨q1, q2, q3⟩, ql, s1, s2, s3⟩ := made3 mI mI mB W.drew (.cells #[.slice a n cap, .slice (some ⟨(FI (FI W.drew)).heap.size, 0, none⟩) n n, .slice none 0 0, .slice (some ⟨(FI W.drew).heap.size, 0, none⟩) n n, .slice (some ⟨W.heap.size, 0, none⟩) n n] 59)
           have hw : W.drew.heap.size = W.heap.size := rfl
           exact wf_new ((Later.drew _).trans ((mI.grow _).trans ((mI.grow _).trans (mB.grow _)))) ⟨by omega, by omega, by omega⟩ ⟨by omega, by omega, by omega⟩ ⟨by omega, by omega, by omega⟩ q3 q2 q1)
  case rest =>
    obtain ⟨B, K, gs, gr, gn, rfl, hW⟩ := hcut
    clear mI mB rI rB hBW
    have i0 : (n : Int) ≤ 400 := by omega
    obtain ⟨y0, y1, y2, y3, y4, y5⟩ := hW.cells
    go_wp2_with fail
    go_loopw [22] (fun i wr => ∃ j : Nat, i = .int .i64 (j : Int) ∧ j ≤ n ∧ Wf W wr B K gs gr gn (.slice a n cap) (.slice none 0 0) n (List.replicate n false) [] (List.replicate n 0) (List.replicate j (-1) ++ List.replicate (n - j) 0)) (fun i _ => n - (intOf i).toNat)
    case atStart => exact ⟨0, rfl, Nat.zero_le _, hW⟩
    case round =>
      obtain ⟨j, rfl, hj, hR⟩ := hrel
      by_cases hlt : j < n
      · have i1 : (j : Int) < (n : Int) := by omega
        obtain ⟨y0, y1, y2, y3, y4, y5⟩ := hR.cells
        have hc := hR.xn.at_ j (by simp; omega)
        obtain ⟨hc, hf⟩ := hc
        have hN := hR.setNe j hlt (-1)
        rw [set_rep n j hlt] at hN
        generalize (List.replicate j (-1 : Int) ++ List.replicate (n - j) 0).getD j 0 = z at hc
        clear hR hW
        go_wp2_with fail
        go_roundw
        case rel => exact ⟨j + 1, by go_num, by omega, hN⟩
        case measure => simp [intOf]; omega
      · have i1 : ¬ (j : Int) < (n : Int) := by omega
        have hjn : j = n := by omega
        subst hjn
        rw [Nat.sub_self, List.replicate_zero, List.append_nil] at hR
        have HA : Hid (Q (.returned (.pointer (some ⟨K, 0, none⟩))) wr) := by rw [← hQ'.out]; exact ⟨B, K, gs, gr, gn, rfl, hR⟩
        clear hR hW
        go_wp2_with fail
        exact HA.out
end Go.Proofs.Ythammngddmkhhaa
