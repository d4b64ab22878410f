/- Trees copied by the laws' own functions to: what they are made of. -/
import Derived.Test.YtlfkjjnhlkaipaaT1
import Derived.ProofKit
namespace Go.Proofs.Ytlfkjjnhlkaipaa
open Go.RowKit

theorem bcell {W w1 : World} (hb : Later W w1) : (∀ b o, b < W.heap.size → w1.cell? ⟨b, o, none⟩ = W.cell? ⟨b, o, none⟩) ∧ (∀ b o, b < W.heap.size → w1.frozen? ⟨b, o, none⟩ = W.frozen? ⟨b, o, none⟩) :=
  ⟨fun b o h => Below.cell hb (p := ⟨b, o, none⟩) h, fun b o h => Below.frozen hb (p := ⟨b, o, none⟩) h⟩
theorem later3 (w : World) (o o' o'' : Obj) : Later w (((w.alloc o).alloc o').alloc o'') := (((Below.refl _ _).alloc (Nat.le_refl _) _).alloc (by simp) _).alloc (by simp; omega) _
theorem Later.set {w w' : World} (h : Later w w') {a : Addr} (ha : w.heap.size ≤ a.block) (v : Value) : Later w (w'.setCell a v) := Below.setCell h ha v
theorem Later.setAt {w w' : World} (h : Later w w') {b : Nat} (hb : w.heap.size ≤ b) (o : Nat) (v : Value) : Later w (w'.setCell ⟨b, o, none⟩ v) := Below.setCell h hb v
theorem Later.alloc {w w' : World} (h : Later w w') (o : Obj) : Later w (w'.alloc o) := h.trans (later1 _ _)

/-- From block lo on all that was there is as it was. -/
structure Kept (lo : Nat) (w w' : World) : Prop where
  size : w.heap.size ≤ w'.heap.size
  block : ∀ b, lo ≤ b → b < w.heap.size → w'.heap[b]? = w.heap[b]?
theorem Kept.refl (lo : Nat) (w : World) : Kept lo w w := ⟨Nat.le_refl _, fun _ _ _ => rfl⟩
theorem Kept.set {lo : Nat} {w w' : World} (h : Kept lo w w') {a : Addr} (ha : a.block < lo) (v : Value) : Kept lo w (w'.setCell a v) :=
  ⟨by rw [World.size_setCell]; exact h.size, fun b hb hw => by rw [Below.heap_setCell _ _ _ _ (by omega)]; exact h.block b hb hw⟩
theorem Kept.setAt {lo : Nat} {w w' : World} (h : Kept lo w w') {b : Nat} (hb : b < lo) (o : Nat) (v : Value) : Kept lo w (w'.setCell ⟨b, o, none⟩ v) := h.set hb v
theorem Kept.alloc {lo : Nat} {w w' : World} (h : Kept lo w w') (o : Obj) : Kept lo w (w'.alloc o) := ⟨Nat.le_trans h.size (later1 w' o).size, fun b hb hw => by rw [(later1 w' o).block b (Nat.lt_of_lt_of_le hw h.size)]; exact h.block b hb hw⟩
theorem Kept.later {lo : Nat} {w w' w'' : World} (h : Kept lo w w') (hl : Later w' w'') : Kept lo w w'' :=
  ⟨Nat.le_trans h.size hl.size, fun b hb hw => by rw [hl.block b (Nat.lt_of_lt_of_le hw h.size)]; exact h.block b hb hw⟩

/-- Blocks from lo on, below hi, none twice. -/
def Fr (lo hi : Nat) (F : List Nat) : Prop := F.Nodup ∧ ∀ b ∈ F, lo ≤ b ∧ b < hi
theorem Fr.nil (lo hi : Nat) : Fr lo hi [] := ⟨List.nodup_nil, fun b hb => by cases hb⟩
theorem Fr.one {lo hi g : Nat} (h : lo ≤ g) (h' : g < hi) : Fr lo hi [g] := ⟨by simp, fun b hb => by rw [List.mem_singleton.1 hb]; exact ⟨h, h'⟩⟩
theorem Fr.mono {lo hi lo' hi' : Nat} {F : List Nat} (h : Fr lo hi F) (h1 : lo' ≤ lo) (h2 : hi ≤ hi') : Fr lo' hi' F := ⟨h.1, fun b hb => by have := h.2 b hb; omega⟩
theorem Fr.app {lo mid hi : Nat} {F G : List Nat} (h : Fr lo mid F) (k : Fr mid hi G) (h1 : lo ≤ mid) (h2 : mid ≤ hi) : Fr lo hi (F ++ G) := by
  refine ⟨List.nodup_append.2 ⟨h.1, k.1, fun a ha b hb e => ?_⟩, fun b hb => ?_⟩
  · have x := h.2 a ha
    have y := k.2 b hb
    omega
  · rcases List.mem_append.1 hb with hb | hb
    · have := h.2 b hb; omega
    · have := k.2 b hb; omega
theorem Own.mk' {base : Nat} {w : World} {d : Dat} {cs : List Value} {F : List Nat} (h : OwnD w d cs F) (f : Fr base w.heap.size F) : Own base w d cs F := ⟨h, f.1, f.2⟩
theorem Own.fr {base : Nat} {w : World} {d : Dat} {cs : List Value} {F : List Nat} (h : Own base w d cs F) : Fr base w.heap.size F := ⟨h.nodup, h.fresh⟩
theorem Own.kept {base : Nat} {w w' : World} {d : Dat} {cs : List Value} {F : List Nat} (h : Own base w d cs F) (hk : Kept base w w') : OwnD w' d cs F := (h.agree hk.size hk.block).own

theorem tob_own (v : Value) (zs : List Int) (w : World) (hs : zs.length ≤ 1048576) (h : RdB w v zs) :
    Calls Try.prog 9 #[v] w fun e w' => ∃ a c F, e = .returned (.slice a zs.length c) ∧ Own w.heap.size w' (.bytes zs) [.slice a zs.length c] F ∧ Later w w' := by
  have hb : ∀ j, isB (zs.getD j 0) := by obtain ⟨_, _, _, _, hb, _⟩ := h; exact hb
  refine (tob_any v zs w hs h).mono ?_
  rintro e w' ⟨rfl, o, l⟩
  have hlt := (o.lt w.heap.size rfl).2
  rcases Nat.eq_zero_or_pos zs.length with h0 | h0
  · refine ⟨_, _, [], rfl, Own.mk' ?_ (Fr.nil _ _), l⟩
    rw [OwnD]
    exact ⟨_, _, rfl, ⟨hs, Nat.le_refl _, by unfold maxLen; omega⟩, hb, fun hp => by omega, fun _ => rfl⟩
  · refine ⟨_, _, [w.heap.size], rfl, Own.mk' ?_ (Fr.one (Nat.le_refl _) hlt), l⟩
    rw [OwnD]
    refine ⟨_, _, rfl, ⟨hs, Nat.le_refl _, by unfold maxLen; omega⟩, hb, fun _ => ⟨w.heap.size, rfl, rfl, hlt, fun j hj => ⟨?_, o.frozenAt j⟩⟩, fun hp => by omega⟩
    rw [o.cellAt j (by omega), List.getElem?_map, List.getElem?_eq_getElem hj, List.getD_eq_getElem?_getD, List.getElem?_eq_getElem hj]
    rfl

/-- Cells put side by side. -/
def puts (w : World) (g o : Nat) : List Value → World
  | [] => w
  | c :: r => puts (w.setCell ⟨g, o, none⟩ c) g (o + 1) r
theorem puts_size (g : Nat) : ∀ (cs : List Value) (w : World) (o : Nat), (puts w g o cs).heap.size = w.heap.size
  | [], _, _ => rfl
  | c :: r, w, o => by rw [puts, puts_size g r, World.size_setCell]
theorem puts_frozen (g : Nat) (a : Addr) : ∀ (cs : List Value) (w : World) (o : Nat), (puts w g o cs).frozen? a = w.frozen? a
  | [], _, _ => rfl
  | c :: r, w, o => by rw [puts, puts_frozen g a r, World.frozen?_setCell]
theorem puts_block (g b : Nat) (hb : b ≠ g) : ∀ (cs : List Value) (w : World) (o : Nat), (puts w g o cs).heap[b]? = w.heap[b]?
  | [], _, _ => rfl
  | c :: r, w, o => by rw [puts, puts_block g b hb r, Below.heap_setCell _ _ _ _ hb]
theorem puts_other (g o' : Nat) : ∀ (cs : List Value) (w : World) (o : Nat), (o' < o ∨ o + cs.length ≤ o') → (puts w g o cs).cell? ⟨g, o', none⟩ = w.cell? ⟨g, o', none⟩
  | [], _, _, _ => rfl
  | c :: r, w, o, h => by
    rw [List.length_cons] at h
    rw [puts, puts_other g o' r _ _ (by omega), set_off _ _ _ (by omega)]
theorem puts_at (g : Nat) : ∀ (cs : List Value) (w : World) (o : Nat), (∀ m, m < cs.length → ∃ u, w.cell? ⟨g, o + m, none⟩ = some u) → ∀ m u, cs[m]? = some u → (puts w g o cs).cell? ⟨g, o + m, none⟩ = some u
  | [], _, _, _, m, u, h => by simp at h
  | c :: r, w, o, he, 0, u, h => by
    have hu : c = u := by simpa using h
    obtain ⟨x, hx⟩ := he 0 (by simp)
    rw [puts, puts_other g _ r _ _ (by omega), hu]
    exact set_same hx
  | c :: r, w, o, he, m + 1, u, h => by
    rw [puts, show o + (m + 1) = o + 1 + m by omega]
    refine puts_at g r _ _ (fun m' hm' => ?_) m u (by simpa using h)
    obtain ⟨x, hx⟩ := he (m' + 1) (by rw [List.length_cons]; omega)
    refine ⟨x, ?_⟩
    rw [set_off _ _ _ (by omega), ← hx, show o + 1 + m' = o + (m' + 1) by omega]
theorem puts_later {w0 w : World} (h : Later w0 w) {g : Nat} (hg : w0.heap.size ≤ g) : ∀ (cs : List Value) (o : Nat), Later w0 (puts w g o cs) := by
  intro cs
  induction cs generalizing w with
  | nil => intro _; exact h
  | cons c r ih => intro o; rw [puts]; exact ih (h.set hg c) _

theorem OwnAll.snoc {w : World} {k g : Nat} {d : Dat} {cs : List Value} {G : List Nat} : ∀ (l : List Dat) {i : Nat} {F : List Nat}, OwnAll w k g i l F → cs.length = k → (∀ m u, cs[m]? = some u → w.cell? ⟨g, (i + l.length) * k + m, none⟩ = some u ∧ w.frozen? ⟨g, (i + l.length) * k + m, none⟩ = false) → OwnD w d cs G → OwnAll w k g i (l ++ [d]) (F ++ G)
  | [], i, F, h, hk, hc, hd => by
    rw [OwnAll] at h
    subst h
    rw [List.nil_append, List.nil_append, OwnAll]
    exact ⟨cs, G, [], by rw [List.append_nil], hk, hc, hd, by rw [OwnAll]⟩
  | x :: r, i, F, h, hk, hc, hd => by
    rw [OwnAll] at h
    obtain ⟨c1, F1, F2, rfl, hk1, hc1, hd1, hr⟩ := h
    rw [List.cons_append, OwnAll]
    refine ⟨c1, F1, F2 ++ G, by rw [List.append_assoc], hk1, hc1, hd1, OwnAll.snoc r hr hk ?_ hd⟩
    rw [List.length_cons] at hc
    rw [show i + 1 + r.length = i + (r.length + 1) by omega]
    exact hc
/-- Elements stay where their cells and blocks do. -/
theorem OwnAll.agree' {w w' : World} (hs : w.heap.size ≤ w'.heap.size) {k g : Nat} : ∀ (l : List Dat) {i : Nat} {F : List Nat}, OwnAll w k g i l F → (∀ o, i * k ≤ o → o < (i + l.length) * k → w'.cell? ⟨g, o, none⟩ = w.cell? ⟨g, o, none⟩ ∧ w'.frozen? ⟨g, o, none⟩ = w.frozen? ⟨g, o, none⟩) → (∀ b ∈ F, w'.heap[b]? = w.heap[b]?) → OwnAll w' k g i l F
  | [], i, F, h, _, _ => by rw [OwnAll] at h ⊢; exact h
  | d :: r, i, F, h, hg, ha => by
    rw [OwnAll] at h ⊢
    obtain ⟨cs, F1, F2, rfl, hk, hc, hd, hr⟩ := h
    rw [List.length_cons] at hg
    have e1 : (i + 1) * k = i * k + k := Nat.succ_mul i k
    have e2 : (i + (r.length + 1)) * k = (i + 1 + r.length) * k := by rw [show i + (r.length + 1) = i + 1 + r.length by omega]
    have e3 : (i + 1) * k ≤ (i + 1 + r.length) * k := Nat.mul_le_mul_right _ (by omega)
    refine ⟨cs, F1, F2, rfl, hk, fun m u hm => ?_, OwnD.agree hs d hd (fun b hb => ha b (List.mem_append_left _ hb)), OwnAll.agree' hs r hr (fun o h1 h2 => hg o (by omega) (by omega)) (fun b hb => ha b (List.mem_append_right _ hb))⟩
    have hml : m < k := by
      rw [← hk]
      rcases Nat.lt_or_ge m cs.length with h | h
      · exact h
      · rw [List.getElem?_eq_none h] at hm; cases hm
    have := hc m u hm
    obtain ⟨x, y⟩ := hg (i * k + m) (by omega) (by omega)
    exact ⟨by rw [x]; exact this.1, by rw [y]; exact this.2⟩

/-- A list that is being copied: the row lies in block g, its first j elements are done. -/
structure Row (w wr : World) (k n j : Nat) (l : List Dat) (F : List Nat) : Prop where
  all : OwnAll wr k w.heap.size 0 (l.take j) F
  fr : Fr (w.heap.size + 1) wr.heap.size F
  cell : ∀ o, o < n * k → (∃ u, wr.cell? ⟨w.heap.size, o, none⟩ = some u) ∧ wr.frozen? ⟨w.heap.size, o, none⟩ = false
  lt : w.heap.size < wr.heap.size
  later : Later w wr
theorem Row.at {w wr : World} {k n j : Nat} {l : List Dat} {F : List Nat} (h : Row w wr k n j l F) (hj : j < n) (m : Nat) (hm : m < k) : (∃ u, wr.cell? ⟨w.heap.size, j * k + m, none⟩ = some u) ∧ wr.frozen? ⟨w.heap.size, j * k + m, none⟩ = false := by
  refine h.cell _ ?_
  have : (j + 1) * k ≤ n * k := Nat.mul_le_mul_right _ hj
  rw [Nat.succ_mul] at this
  omega
/-- A row of the base type, new. -/
theorem Row.start {w w1 : World} {t : TypeId} {k n cap : Nat} {xs : List Value} (ho : w1.ownsRow w.heap.size t k (.slice (some ⟨w.heap.size, 0, none⟩) n cap) n xs) (hx : xs.length = n * k) (hl : Later w w1) (l : List Dat) : Row w w1 k n 0 l [] := by
  refine ⟨by rw [List.take_zero, OwnAll], Fr.nil _ _, fun o h => ⟨⟨xs[o]'(by omega), ?_⟩, ho.frozenAt o⟩, (ho.lt w.heap.size rfl).2, hl⟩
  rw [ho.cellAt o (by omega), List.getElem?_eq_getElem (by omega)]
theorem Row.next {w wr w1 : World} {k n j : Nat} {l : List Dat} {F : List Nat} (h : Row w wr k n j l F) (hj : j < l.length) (hn : l.length = n) {cs : List Value} {G : List Nat} (hk : cs.length = k) (hd : Own wr.heap.size w1 l[j] cs G) (hl : Later wr w1) :
    ∃ F', Row w (puts w1 w.heap.size (j * k) cs) k n (j + 1) l F' := by
  have hlt := h.lt
  have hs := hl.size
  have hcell : ∀ o, o < n * k → (∃ u, w1.cell? ⟨w.heap.size, o, none⟩ = some u) ∧ w1.frozen? ⟨w.heap.size, o, none⟩ = false := fun o ho => by
    obtain ⟨⟨u, hu⟩, hf⟩ := h.cell o ho
    exact ⟨⟨u, by rw [Below.cell hl (p := ⟨w.heap.size, o, none⟩) hlt]; exact hu⟩, by rw [Below.frozen hl (p := ⟨w.heap.size, o, none⟩) hlt]; exact hf⟩
  have hjn : (j + 1) * k ≤ n * k := Nat.mul_le_mul_right _ (by omega)
  rw [Nat.succ_mul] at hjn
  have htl : (l.take j).length = j := by rw [List.length_take]; omega
  refine ⟨F ++ G, ⟨?_, ?_, fun o ho => ?_, by rw [puts_size]; omega, puts_later (h.later.trans hl) (Nat.le_refl _) _ _⟩⟩
  · rw [List.take_succ_eq_append_getElem hj]
    refine OwnAll.snoc _ (OwnAll.agree' (by rw [puts_size]; exact hs) _ h.all (fun o h1 h2 => ?_) (fun b hb => ?_)) hk (fun m u hm => ?_) (OwnD.agree (by rw [puts_size]; exact Nat.le_refl _) _ hd.own (fun b hb => ?_))
    · rw [htl, Nat.zero_add] at h2
      refine ⟨?_, ?_⟩
      · rw [puts_other _ _ _ _ _ (by omega), Below.cell hl (p := ⟨w.heap.size, o, none⟩) hlt]
      · rw [puts_frozen, Below.frozen hl (p := ⟨w.heap.size, o, none⟩) hlt]
    · have := h.fr.2 b hb
      rw [puts_block _ _ (by omega), hl.block b this.2]
    · rw [htl, Nat.zero_add]
      have hml : m < k := by
        rw [← hk]
        rcases Nat.lt_or_ge m cs.length with h | h
        · exact h
        · rw [List.getElem?_eq_none h] at hm; cases hm
      refine ⟨puts_at _ _ _ _ (fun m' hm' => (hcell _ (by omega)).1) m u hm, ?_⟩
      rw [puts_frozen]
      exact (hcell _ (by omega)).2
    · have := hd.fresh b hb
      rw [puts_block _ _ (by omega)]
  · rw [puts_size]
    exact h.fr.app hd.fr (by omega) hs
  · obtain ⟨⟨u, hu⟩, hf⟩ := hcell o ho
    refine ⟨?_, by rw [puts_frozen]; exact hf⟩
    rcases Nat.lt_or_ge o (j * k) with a | a
    · exact ⟨u, by rw [puts_other _ _ _ _ _ (by omega)]; exact hu⟩
    · rcases Nat.lt_or_ge o (j * k + k) with b | b
      · have hm : o - j * k < cs.length := by omega
        have := puts_at w.heap.size cs w1 (j * k) (fun m' hm' => (hcell _ (by omega)).1) (o - j * k) _ (List.getElem?_eq_getElem hm)
        rw [show j * k + (o - j * k) = o by omega] at this
        exact ⟨_, this⟩
      · exact ⟨u, by rw [puts_other _ _ _ _ _ (by omega)]; exact hu⟩
theorem Row.done {w wr : World} {k n cap : Nat} {l : List Dat} {F : List Nat} (h : Row w wr k n n l F) (hn : l.length = n) (hs : n ≤ 1048576) (hcap : n ≤ cap ∧ cap ≤ maxLen) : ∃ G, Own w.heap.size wr (.list k l) [.slice (some ⟨w.heap.size, 0, none⟩) n cap] G := by
  have hlt := h.lt
  have e : l.take n = l := List.take_of_length_le (by omega)
  have ha := h.all
  rw [e] at ha
  rcases Nat.eq_zero_or_pos n with h0 | h0
  · refine ⟨[], Own.mk' ?_ (Fr.nil _ _)⟩
    rw [OwnD, hn]
    exact ⟨_, cap, rfl, ⟨hs, hcap⟩, fun hp => by omega, fun _ => rfl⟩
  · refine ⟨w.heap.size :: F, Own.mk' ?_ ((Fr.one (Nat.le_refl _) (Nat.lt_succ_self _)).app h.fr (by omega) (by omega))⟩
    rw [OwnD, hn]
    exact ⟨_, cap, rfl, ⟨hs, hcap⟩, fun _ => ⟨_, F, rfl, rfl, hlt, ha⟩, fun hp => by omega⟩

end Go.Proofs.Ytlfkjjnhlkaipaa
