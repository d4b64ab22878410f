/- Expressions and statements surveyed, by the program. -/
import Derived.Test.YtbigjeejmacjcaaGreatDoorT11
namespace Go.Proofs.YtbigjeejmacjcaaGreatDoor
open Go.RowKit

theorem Ex.kids_le (x : Ex) : Ex.szs x.kids ≤ x.sz := by obtain ⟨k, n, tk, tn, nm, ks⟩ := x; show Ex.szs ks ≤ nm.length + Ex.szs ks; omega
set_option maxHeartbeats 4000000 in
theorem iexprs_all (N : Nat) : ∀ (v : Value) (l : List Ex) (K : Nat) (s p d : Int) (w0 w : World), Ex.szs l ≤ N → (Ex.goods l) → RdL w0 6 v (Ex.dats l) → Later w0 w → w0.heap.size ≤ K → Sv K w s p → 0 ≤ p → p ≤ 400 → 0 ≤ d → d ≤ 31 →
    Calls Tryz.prog 105 #[.pointer (some ⟨K, 0, none⟩), v, .int .i64 d] w fun e w' => SvP K s w (Ex.runs s d (400 - p) l) e w' := by
  induction N using Nat.strongRecOn with
  | _ N IH =>
  intro v l K s p d w0 w hN hg h hL hK hS hp0 hp1 hd0 hd1
  obtain ⟨a, cap, rfl, hl⟩ := Ex.slice h
  go_enter Tryz.func105, Tryz.ntmps105
  go_wp2_with fail
  go_loopw [11] (fun i wr => ∃ (j : Nat) (q : Int), i = .int .i64 (j : Int) ∧ j ≤ l.length ∧ OnlyK K w wr ∧ Sv K wr s q ∧ 0 ≤ q ∧ q ≤ 400 ∧ Hid (Ex.soFar s d (400 - p) l j (400 - q))) (fun i _ => l.length - (intOf i).toNat)
  case atStart => exact ⟨0, p, rfl, Nat.zero_le _, OnlyK.refl _ _, hS, hp0, hp1, Ex.soFar_start _ _ _ _⟩
  case round =>
    obtain ⟨j, q, rfl, hj, oR, hSr, hq0, hq1, HS⟩ := hrel
    by_cases hlt : j < l.length
    · obtain ⟨g, off, v0, v1, rfl, hgs, c0, c1, c2, c3, c4, c5, r0, r1⟩ := Ex.elem h j hlt
      have i1 : (j : Int) < (l.length : Int) := by omega
      have hLr := later_only hL oR hK
      have c0 : wr.cell? ⟨g, off + j * 6, none⟩ = some (.int .i64 l[j].kind) := by rw [Below.cell hLr (p := ⟨g, off + j * 6, none⟩) hgs]; exact c0
      have c1 : wr.cell? ⟨g, off + j * 6 + 1, none⟩ = some (.int .i64 l[j].n) := by rw [Below.cell hLr (p := ⟨g, off + j * 6 + 1, none⟩) hgs]; exact c1
      have c2 : wr.cell? ⟨g, off + j * 6 + 2, none⟩ = some (.int .i64 l[j].tk) := by rw [Below.cell hLr (p := ⟨g, off + j * 6 + 2, none⟩) hgs]; exact c2
      have c3 : wr.cell? ⟨g, off + j * 6 + 3, none⟩ = some (.int .i64 l[j].tn) := by rw [Below.cell hLr (p := ⟨g, off + j * 6 + 3, none⟩) hgs]; exact c3
      have c4 : wr.cell? ⟨g, off + j * 6 + 4, none⟩ = some (v0) := by rw [Below.cell hLr (p := ⟨g, off + j * 6 + 4, none⟩) hgs]; exact c4
      have c5 : wr.cell? ⟨g, off + j * 6 + 5, none⟩ = some (v1) := by rw [Below.cell hLr (p := ⟨g, off + j * 6 + 5, none⟩) hgs]; exact c5
      obtain ⟨y0, q0, rfl, _⟩ := r0.slice
      obtain ⟨y1, q1, rfl, _⟩ := Ex.slice r1
      have hE := fun w' (lw : Later wr w') => iexpr_any l[j] _ _ K s q d w0 w' (Ex.goods_at l j hlt hg) r0 r1 (hLr.trans lw) hK (hSr.later lw) hq0 hq1 hd0 hd1 (fun p' d' w' l' S' a b c e => IH (Ex.szs l[j].kids) (by have := Ex.sz_at l j hlt; have : Ex.szs l[j].kids ≤ l[j].sz := Ex.kids_le _; omega) _ _ K s p' d' w0 w' (Nat.le_refl _) (Ex.good_kids (Ex.goods_at l j hlt hg)) r1 l' hK S' a b c e)
      have HN : Hid (∀ l', Ex.run s d (400 - q) l[j] = some l' → Ex.soFar s d (400 - p) l (j + 1) l' ∧ 0 ≤ l' ∧ l' < 400 - q) := fun l' hr => ⟨Ex.soFar_next HS.out hlt hr, Ex.run_le s _ _ _ _ hr⟩
      have HB : Hid (Ex.run s d (400 - q) l[j] = none → Ex.runs s d (400 - p) l = none) := fun hr => Ex.soFar_bad HS.out hlt hr
      clear r0 r1 h HS
      generalize Ex.run s d (400 - q) l[j] = R at *
      generalize l[j].kind = z_kind at *
      generalize l[j].n = z_n at *
      generalize l[j].tk = z_tk at *
      generalize l[j].tn = z_tn at *
      go_wp2_with fail
      refine (hE _ (later1 _ _)).mono ?_
      rintro e w1 ⟨o1, hm⟩
      have o := oR.trans ((OnlyK.of_later (later1 _ _)).trans o1)
      cases R with
      | none =>
        obtain ⟨rfl, p', hS1⟩ := hm
        have hb : Hid (Ex.runs s d (400 - p) l = none) := HB.out rfl
        go_wp2_with fail
        go_ret
        exact SvP.no o hb.out rfl hS1
      | some l' =>
        obtain ⟨rfl, hS1⟩ := hm
        obtain ⟨n1, n2, n3⟩ := HN.out l' rfl
        have HN1 : Hid (Ex.soFar s d (400 - p) l (j + 1) (400 - (400 - l'))) := by rw [show (400 : Int) - (400 - l') = l' by omega]; exact n1
        clear n1 HN HB hE
        go_wp2_with fail
        go_roundw
        case rel => exact ⟨j + 1, 400 - l', by go_num, by omega, o, hS1, by omega, by omega, HN1⟩
        case measure => simp [intOf]; omega
    · have i1 : ¬ (j : Int) < (l.length : Int) := by omega
      have i2 : decide ((j : Int) < (l.length : Int)) = false := decide_eq_false i1
      have hjj : j = l.length := by omega
      subst hjj
      have HD : Hid (Ex.runs s d (400 - p) l = some (400 - q)) := Ex.soFar_done HS.out
      clear h HS
      go_wp2_with fail
      go_ret
      exact SvP.yes oR HD.out rfl hSr (by omega)
theorem iexprs_any (v : Value) (l : List Ex) (K : Nat) (s p d : Int) (w0 w : World) (hg : Ex.goods l) (h : RdL w0 6 v (Ex.dats l)) (hL : Later w0 w) (hK : w0.heap.size ≤ K) (hS : Sv K w s p) (hp0 : 0 ≤ p) (hp1 : p ≤ 400) (hd0 : 0 ≤ d) (hd1 : d ≤ 31) :
    Calls Tryz.prog 105 #[.pointer (some ⟨K, 0, none⟩), v, .int .i64 d] w fun e w' => SvP K s w (Ex.runs s d (400 - p) l) e w' := iexprs_all _ v l K s p d w0 w (Nat.le_refl _) hg h hL hK hS hp0 hp1 hd0 hd1

/-- May it stand on the left? -/
def leftB (k : Int) : Bool := (k == 3) || (k == 7) || (k == 8)
set_option maxHeartbeats 1000000 in
theorem ileft_any (x : Ex) (v0 v1 : Value) (w : World) : Calls Tryz.prog 104 #[.agg #[.int .i64 x.kind, .int .i64 x.n, .int .i64 x.tk, .int .i64 x.tn, v0, v1]] w fun e w' => e = .returned (.bool (leftB x.kind)) ∧ Later w w' := by
  unfold leftB
  generalize x.kind = k
  cases h3 : k == 3
  · cases h7 : k == 7
    all_goals
      go_enter Tryz.func104, Tryz.ntmps104
      go_wp2_with fail
      go_ret
      exact ⟨by first | rfl | (simp; done), later1 _ _⟩
  · go_enter Tryz.func104, Tryz.ntmps104
    go_wp2_with fail
    go_ret
    exact ⟨rfl, later1 _ _⟩

mutual
def St.good : St → Prop
  | .mk _ n _ _ _ ks bo el => InR n ∧ Ex.goods ks ∧ St.goods bo ∧ St.goods el
def St.goods : List St → Prop
  | [] => True
  | x :: r => x.good ∧ St.goods r
end
theorem St.goods_at : ∀ (l : List St) (j : Nat) (h : j < l.length), St.goods l → l[j].good
  | x :: r, 0, _, h => by rw [St.goods] at h; exact h.1
  | x :: r, j + 1, hj, h => by rw [St.goods] at h; exact St.goods_at r j (by simpa using hj) h.2
theorem St.good_all {x : St} (h : x.good) : InR x.n ∧ Ex.goods x.kids ∧ St.goods x.body ∧ St.goods x.els := by obtain ⟨k, n, tk, tn, nm, ks, bo, el⟩ := x; rw [St.good] at h; exact h
/-- What the first kid must be. -/
def headB (k : Int) (ks : List Ex) : Bool := if k = 1 then (match ks with | x :: _ => leftB x.kind | [] => false) else if k = 7 then (match ks with | x :: _ => x.kind == 6 | [] => false) else true
def hereS (s k n tk tn : Int) (name : List Int) (ks : List Ex) (body els : Nat) : Bool := match formS k with | some f => fitsB f n tk tn name ks.length s && (f.2.2.2.2.2.1 || decide (body = 0)) && (f.2.2.2.2.2.2 || decide (els = 0)) && headB k ks | none => false
mutual
def St.run (s : Int) : Int → Int → St → Option Int
  | d, l, .mk k n tk tn nm ks bo el => if l - 1 < 0 ∨ 30 < d ∨ hereS s k n tk tn nm ks bo.length el.length = false then none else
    match Ex.runs s (d + 1) (l - 1) ks with
    | none => none
    | some l1 => match St.runs s (d + 1) l1 bo with
      | none => none
      | some l2 => St.runs s (d + 1) l2 el
def St.runs (s : Int) : Int → Int → List St → Option Int
  | _, l, [] => some l
  | d, l, x :: r => match St.run s d l x with | none => none | some l' => St.runs s d l' r
end
theorem St.run_eq (s d l : Int) (x : St) : St.run s d l x = if l - 1 < 0 ∨ 30 < d ∨ hereS s x.kind x.n x.tk x.tn x.name x.kids x.body.length x.els.length = false then none else (match Ex.runs s (d + 1) (l - 1) x.kids with | none => none | some l1 => match St.runs s (d + 1) l1 x.body with | none => none | some l2 => St.runs s (d + 1) l2 x.els) := by
  obtain ⟨k, n, tk, tn, nm, ks, bo, el⟩ := x
  rw [St.run]
  rfl
def St.soFar (s d l : Int) (xs : List St) (j : Nat) (l' : Int) : Prop := St.runs s d l xs = St.runs s d l' (xs.drop j)
theorem St.soFar_start (s d l : Int) (xs : List St) : St.soFar s d l xs 0 l := rfl
theorem St.soFar_done {s d l l' : Int} {xs : List St} (h : St.soFar s d l xs xs.length l') : St.runs s d l xs = some l' := by
  unfold St.soFar at h
  rw [h, List.drop_length, St.runs]
theorem St.soFar_next {s d l l' l'' : Int} {xs : List St} {j : Nat} (h : St.soFar s d l xs j l') (hj : j < xs.length) (hr : St.run s d l' xs[j] = some l'') : St.soFar s d l xs (j + 1) l'' := by
  unfold St.soFar at *
  rw [h, List.drop_eq_getElem_cons hj, St.runs, hr]
theorem St.soFar_bad {s d l l' : Int} {xs : List St} {j : Nat} (h : St.soFar s d l xs j l') (hj : j < xs.length) (hr : St.run s d l' xs[j] = none) : St.runs s d l xs = none := by
  unfold St.soFar at h
  rw [h, List.drop_eq_getElem_cons hj, St.runs, hr]
mutual
theorem St.run_le (s : Int) : ∀ (x : St) (d l l' : Int), St.run s d l x = some l' → 0 ≤ l' ∧ l' < l
  | .mk k n tk tn nm ks bo el, d, l, l', h => by
    rw [St.run] at h
    split at h
    · cases h
    · rename_i hc
      split at h
      · cases h
      · rename_i l1 h1
        split at h
        · cases h
        · rename_i l2 h2
          have a1 := Ex.runs_le s ks _ _ _ h1
          have a2 := St.runs_le s bo _ _ _ h2
          have a3 := St.runs_le s el _ _ _ h
          have b1 := a1.2 (by omega)
          have b2 := a2.2 b1
          exact ⟨a3.2 b2, by omega⟩
theorem St.runs_le (s : Int) : ∀ (xs : List St) (d l l' : Int), St.runs s d l xs = some l' → l' ≤ l ∧ (0 ≤ l → 0 ≤ l')
  | [], d, l, l', h => by rw [St.runs] at h; cases h; exact ⟨Int.le_refl _, fun h => h⟩
  | x :: r, d, l, l', h => by
    rw [St.runs] at h
    split at h
    · cases h
    · rename_i l1 h1
      have a := St.run_le s x d l l1 h1
      have b := St.runs_le s r d l1 l' h
      exact ⟨by omega, fun _ => b.2 a.1⟩
end

end Go.Proofs.YtbigjeejmacjcaaGreatDoor
