/- Exact marks: what a list holds behind them. -/
import Derived.Test.YtlfkjjnhlkaipaaJ6
namespace Go.Proofs.Ytlfkjjnhlkaipaa
open Go.RowKit

/-- One element: read, and put back changed. -/
theorem OwnAll.lens {w : World} {k g : Nat} : ∀ (l : List Dat) {i : Nat} {F : List Nat} (j : Nat) (hj : j < l.length), OwnAll w k g i l F →
    ∃ cs F1 Fj F2, F = F1 ++ (Fj ++ F2) ∧ cs.length = k ∧ (∀ m u, cs[m]? = some u → w.cell? ⟨g, (i + j) * k + m, none⟩ = some u ∧ w.frozen? ⟨g, (i + j) * k + m, none⟩ = false) ∧ OwnD w l[j] cs Fj ∧
      ∀ (w' : World) (d : Dat) (cs' : List Value), cs'.length = k → (∀ m u, cs'[m]? = some u → w'.cell? ⟨g, (i + j) * k + m, none⟩ = some u ∧ w'.frozen? ⟨g, (i + j) * k + m, none⟩ = false) → OwnD w' d cs' Fj → w.heap.size ≤ w'.heap.size →
        (∀ o, o < (i + j) * k ∨ (i + j + 1) * k ≤ o → w'.cell? ⟨g, o, none⟩ = w.cell? ⟨g, o, none⟩ ∧ w'.frozen? ⟨g, o, none⟩ = w.frozen? ⟨g, o, none⟩) → (∀ b, b ∈ F1 ∨ b ∈ F2 → w'.heap[b]? = w.heap[b]?) → OwnAll w' k g i (l.set j d) F
  | [], i, F, j, hj, h => absurd hj (Nat.not_lt_zero _)
  | d0 :: r, i, F, 0, hj, h => by
    rw [OwnAll] at h
    obtain ⟨cs, F1, F2, rfl, hk, hc, hd, hr⟩ := h
    refine ⟨cs, [], F1, F2, by rw [List.nil_append], hk, hc, hd, fun w' d cs' hk' hc' hd' hs ho hb => ?_⟩
    rw [List.set_cons_zero, OwnAll]
    refine ⟨cs', F1, F2, rfl, hk', hc', hd', OwnAll.agree' hs r hr (fun o h1 h2 => ho o (.inr (by simpa using h1))) (fun b q => hb b (.inr q))⟩
  | d0 :: r, i, F, j + 1, hj, h => by
    rw [OwnAll] at h
    obtain ⟨cs, F1, F2, rfl, hk, hc, hd, hr⟩ := h
    obtain ⟨cs1, A1, Aj, A2, rfl, hk1, hc1, hd1, HK⟩ := OwnAll.lens r j (Nat.lt_of_succ_lt_succ hj) hr
    have e : i + 1 + j = i + (j + 1) := by omega
    rw [e] at hc1 HK
    refine ⟨cs1, F1 ++ A1, Aj, A2, by simp [List.append_assoc], hk1, hc1, hd1, fun w' d cs' hk' hc' hd' hs ho hb => ?_⟩
    rw [List.set_cons_succ, OwnAll]
    refine ⟨cs, F1, A1 ++ (Aj ++ A2), rfl, hk, fun m u hm => ?_, OwnD.agree hs d0 hd (fun b q => hb b (.inl (List.mem_append_left _ q))), HK w' d cs' hk' hc' hd' hs ho (fun b q => hb b (q.imp (fun q => List.mem_append_right _ q) id))⟩
    have hm' : m < k := by have := (List.getElem?_eq_some_iff.1 hm).1; omega
    have hlt : i * k + m < (i + (j + 1)) * k := by
      have : (i + 1) * k ≤ (i + (j + 1)) * k := Nat.mul_le_mul_right _ (by omega)
      rw [Nat.succ_mul] at this
      omega
    have := ho (i * k + m) (.inl hlt)
    rw [this.1, this.2]
    exact hc m u hm
/-- Only these blocks were written. -/
structure OnlyF (F : List Nat) (w w' : World) : Prop where
  os : w'.os = w.os
  tape : w'.tape = w.tape
  output : w'.output = w.output
  size : w.heap.size ≤ w'.heap.size
  block : ∀ b, b < w.heap.size → b ∉ F → w'.heap[b]? = w.heap[b]?
theorem OnlyF.refl (F : List Nat) (w : World) : OnlyF F w w := ⟨rfl, rfl, rfl, Nat.le_refl _, fun _ _ _ => rfl⟩
theorem OnlyF.trans {F : List Nat} {a b c : World} (h : OnlyF F a b) (k : OnlyF F b c) : OnlyF F a c := ⟨k.os.trans h.os, k.tape.trans h.tape, k.output.trans h.output, Nat.le_trans h.size k.size, fun x hx hn => by rw [k.block x (Nat.lt_of_lt_of_le hx h.size) hn, h.block x hx hn]⟩
theorem OnlyF.mono {F G : List Nat} {a b : World} (h : OnlyF F a b) (hs : ∀ x ∈ F, x ∈ G) : OnlyF G a b := ⟨h.os, h.tape, h.output, h.size, fun x hx hn => h.block x hx (fun q => hn (hs x q))⟩
theorem OnlyF.set {F : List Nat} {a b : World} (h : OnlyF F a b) {g o : Nat} (v : Value) (hg : g ∈ F) : OnlyF F a (b.setCell ⟨g, o, none⟩ v) := ⟨h.os, h.tape, h.output, by rw [World.size_setCell]; exact h.size, fun x hx hn => by
  rw [Below.heap_setCell _ _ _ _ (fun e => hn (by rw [e]; exact hg))]
  exact h.block x hx hn⟩
/-- A list whose elements are marked one behind the other. -/
def mks {X : Type} (mk1 : Int → X → X) (c1 : X → Nat) : Int → List X → List X
  | _, [] => []
  | k, x :: r => mk1 k x :: mks mk1 c1 (k + c1 x) r
def cnt {X : Type} (c1 : X → Nat) : List X → Nat
  | [] => 0
  | x :: r => c1 x + cnt c1 r
theorem mks_len {X : Type} (mk1 : Int → X → X) (c1 : X → Nat) : ∀ (k : Int) (l : List X), (mks mk1 c1 k l).length = l.length
  | _, [] => rfl
  | k, x :: r => by rw [mks, List.length_cons, List.length_cons, mks_len]
theorem cnt_app {X : Type} (c1 : X → Nat) : ∀ (l r : List X), cnt c1 (l ++ r) = cnt c1 l + cnt c1 r
  | [], r => by rw [List.nil_append, cnt, Nat.zero_add]
  | x :: l, r => by rw [List.cons_append, cnt, cnt, cnt_app]; omega
theorem mks_app {X : Type} (mk1 : Int → X → X) (c1 : X → Nat) : ∀ (k : Int) (l r : List X), mks mk1 c1 k (l ++ r) = mks mk1 c1 k l ++ mks mk1 c1 (k + cnt c1 l) r
  | k, [], r => by rw [List.nil_append, mks, cnt]; simp
  | k, x :: l, r => by
    rw [List.cons_append, mks, mks, mks_app, List.cons_append, cnt]
    have e : k + ((c1 x : Nat) : Int) + ((cnt c1 l : Nat) : Int) = k + ((c1 x + cnt c1 l : Nat) : Int) := by omega
    rw [e]
/-- The first j are marked. -/
def mid {X : Type} (mk1 : Int → X → X) (c1 : X → Nat) (k : Int) (l : List X) (j : Nat) : List X := mks mk1 c1 k (l.take j) ++ l.drop j
theorem mid_zero {X : Type} (mk1 : Int → X → X) (c1 : X → Nat) (k : Int) (l : List X) : mid mk1 c1 k l 0 = l := rfl
theorem mid_all {X : Type} (mk1 : Int → X → X) (c1 : X → Nat) (k : Int) (l : List X) : mid mk1 c1 k l l.length = mks mk1 c1 k l := by unfold mid; rw [List.take_length, List.drop_length, List.append_nil]
theorem mid_len {X : Type} (mk1 : Int → X → X) (c1 : X → Nat) (k : Int) (l : List X) (j : Nat) : (mid mk1 c1 k l j).length = l.length := by unfold mid; rw [List.length_append, mks_len, ← List.length_append, List.take_append_drop]
theorem mid_at {X : Type} (mk1 : Int → X → X) (c1 : X → Nat) (k : Int) (l : List X) {j : Nat} (h : j < l.length) : (mid mk1 c1 k l j)[j]'(by rw [mid_len]; exact h) = l[j] := by
  unfold mid
  have hl : (mks mk1 c1 k (l.take j)).length = j := by rw [mks_len, List.length_take]; omega
  rw [List.getElem_append_right (by omega)]
  simp only [hl, Nat.sub_self, List.getElem_drop, Nat.add_zero]
theorem cnt_succ {X : Type} (c1 : X → Nat) {l : List X} {j : Nat} (h : j < l.length) : cnt c1 (l.take (j + 1)) = cnt c1 (l.take j) + c1 l[j] := by
  rw [List.take_succ_eq_append_getElem h, cnt_app, cnt, cnt, Nat.add_zero]
theorem mid_succ {X : Type} (mk1 : Int → X → X) (c1 : X → Nat) (k : Int) (l : List X) {j : Nat} (h : j < l.length) : mid mk1 c1 k l (j + 1) = (mid mk1 c1 k l j).set j (mk1 (k + cnt c1 (l.take j)) l[j]) := by
  unfold mid
  have hl : (mks mk1 c1 k (l.take j)).length = j := by rw [mks_len, List.length_take]; omega
  rw [List.take_succ_eq_append_getElem h, mks_app, List.drop_eq_getElem_cons h, List.set_append_right _ _ (by omega), hl, Nat.sub_self, List.set_cons_zero, List.append_assoc]
  rfl
/-- An owned list: one element read, and put back changed. -/
theorem Own.lens {base k : Nat} {w : World} {v : Value} {l : List Dat} {F : List Nat} (h : Own base w (.list k l) [v] F) (j : Nat) (hj : j < l.length) :
    ∃ g cap cs Fj, v = .slice (some ⟨g, 0, none⟩) l.length cap ∧ g ∈ F ∧ (∀ b ∈ Fj, b ∈ F ∧ b ≠ g) ∧ Fj.Nodup ∧ base ≤ g ∧ g < w.heap.size ∧ cs.length = k ∧ (∀ m u, cs[m]? = some u → w.cell? ⟨g, j * k + m, none⟩ = some u ∧ w.frozen? ⟨g, j * k + m, none⟩ = false) ∧ Own base w l[j] cs Fj ∧
      ∀ (w' : World) (d : Dat) (cs' : List Value), cs'.length = k → (∀ m u, cs'[m]? = some u → w'.cell? ⟨g, j * k + m, none⟩ = some u ∧ w'.frozen? ⟨g, j * k + m, none⟩ = false) → OwnD w' d cs' Fj → OnlyF (g :: Fj) w w' →
        (∀ o, o < j * k ∨ (j + 1) * k ≤ o → w'.cell? ⟨g, o, none⟩ = w.cell? ⟨g, o, none⟩ ∧ w'.frozen? ⟨g, o, none⟩ = w.frozen? ⟨g, o, none⟩) → Own base w' (.list k (l.set j d)) [v] F := by
  have h1 := h.own
  rw [OwnD] at h1
  obtain ⟨a, cap, e, hl, hp, _⟩ := h1
  obtain ⟨g, F', rfl, rfl, hg, hA⟩ := hp (by omega)
  obtain ⟨cs, F1, Fj, F2, rfl, hk, hc, hd, HK⟩ := OwnAll.lens l j hj hA
  have hnd := h.nodup
  rw [List.nodup_cons] at hnd
  have hfr := h.fresh
  have hin : ∀ b ∈ Fj, b ∈ F1 ++ (Fj ++ F2) := fun b hb => List.mem_append_right _ (List.mem_append_left _ hb)
  have hjn : Fj.Nodup := by
    have := (List.nodup_append.1 hnd.2).2.1
    exact (List.nodup_append.1 this).1
  rw [Nat.zero_add] at hc HK
  simp only [List.cons.injEq, and_true] at e
  refine ⟨g, cap, cs, Fj, e, List.mem_cons_self .., fun b hb => ⟨List.mem_cons_of_mem _ (hin b hb), fun q => hnd.1 (by rw [← q]; exact hin b hb)⟩, hjn, (hfr g (List.mem_cons_self ..)).1, hg, hk, hc, Own.mk' hd ⟨hjn, fun b hb => hfr b (List.mem_cons_of_mem _ (hin b hb))⟩, fun w' d cs' hk' hc' hd' ho hcell => ?_⟩
  have hsep : ∀ b, b ∈ F1 ∨ b ∈ F2 → b ∉ g :: Fj := fun b hb q => by
    have hb' : b ∈ F1 ++ (Fj ++ F2) := hb.elim (fun x => List.mem_append_left _ x) (fun x => List.mem_append_right _ (List.mem_append_right _ x))
    rcases List.mem_cons.1 q with rfl | q
    · exact hnd.1 hb'
    · rcases hb with x | x
      · exact (List.nodup_append.1 hnd.2).2.2 b x b (List.mem_append_left _ q) rfl
      · exact (List.nodup_append.1 (List.nodup_append.1 hnd.2).2.1).2.2 b q b x rfl
  have hbl : ∀ b, b ∈ F1 ∨ b ∈ F2 → w'.heap[b]? = w.heap[b]? := fun b hb => ho.block b (hfr b (List.mem_cons_of_mem _ (hb.elim (fun x => List.mem_append_left _ x) (fun x => List.mem_append_right _ (List.mem_append_right _ x))))).2 (hsep b hb)
  have hA' := HK w' d cs' hk' hc' hd' ho.size hcell hbl
  refine Own.mk' ?_ ⟨h.nodup, fun b hb => ⟨(hfr b hb).1, Nat.lt_of_lt_of_le (hfr b hb).2 ho.size⟩⟩
  rw [OwnD]
  refine ⟨_, cap, by rw [List.length_set, e], by rw [List.length_set]; exact hl, fun _ => ⟨g, _, rfl, rfl, Nat.lt_of_lt_of_le hg ho.size, hA'⟩, fun q => by rw [List.length_set] at q; omega⟩
end Go.Proofs.Ytlfkjjnhlkaipaa
