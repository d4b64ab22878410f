/- Lists of data of their own, built by append; the reader's box. -/
import Derived.Test.YtlfkjjnhlkaipaaV1
import Derived.Test.YtlfkjjnhlkaipaaN1
import Derived.Maps.AppendAt
import Derived.Lib.SliceRun
import Derived.Deep.RegionLaw
namespace Go.Proofs.Ytlfkjjnhlkaipaa
open Go.RowKit Go.Lib Go.Maps

theorem row_form {w : World} {base k n : Nat} {t : TypeId} {v : Value} {xs : List Value} (h : w.ownsRow base t k v n xs) : ∃ a cap, v = .slice a n cap := by
  rcases h.2 with ⟨rfl, rfl⟩ | ⟨g, cap, cur, rfl, _⟩
  · exact ⟨_, _, rfl⟩
  · exact ⟨_, _, rfl⟩
theorem hidx {α : Type} (x : α) : ∃ T, Hid (T = x) := ⟨x, rfl⟩
theorem step_append_at {P : Program} {ops : Array Oper} {o : Oper} {a : Act} {w : World} {K : Act → World → Prop} {Q : Exit → Act → World → Prop} {E : Prop}
    (hg : o.guard = none) (s x : Operand) (t : TypeId) (hop : o.op = Op.call { callee := Callee.builtin Builtin.append, args := #[s, x], argTypes := #[t, t] })
    (base : Nat) (e : TypeId) (i : TypeInfo) (z : Value) (size bytes : Nat) (ht : P.underlying t = some (.slice e)) (hi : P.info? e = some i) (hz : i.zero = some z)
    (hsize : i.size = size) (hby : i.bytes = bytes) (hzs : z.cells.size = size) (hsz : 0 < size)
    (v : Value) (n : Nat) (xs : List Value) (hs : a.eval s = v) (hown : w.ownsRow base e size v n xs)
    (ad : Addr) (m c : Nat) (news : List Value) (hx : a.eval x = .slice (some ad) m c) (hl : news.length = m * size) (hnews : ∀ j u, news[j]? = some u → w.cell? (ad.add j) = some u) (h1 : ∀ u ∈ news, u.oneCell' = true)
    (h63 : n + m ≤ maxLen) (hbytes : (n + m) * bytes ≤ 140737488355328) (hbase : base ≤ w.heap.size)
    (h : ∀ v' w', w'.ownsRow base e size v' (n + m) (xs ++ news) → w.grownBy w' v.ownBlock → (v'.ownBlock = v.ownBlock ∨ v'.ownBlock = some w.heap.size) → K (a.put o.dst v') w') :
    if Region.wanted o (yielded ops a.tmps) = true then Oper.wp P o a w K Q else E := by
  have hw : Region.wanted o (yielded ops a.tmps) = true := by simp [Region.wanted, hg]
  rw [if_pos hw]
  obtain ⟨v', w', hr, h2, h3, _, h5⟩ := run_append_own_at (P := P) w base t o.type e i z size bytes ht hi hz hsize hby hzs hsz v n xs hown ad m c news hl hnews h1 h63 hbytes hbase
  unfold Oper.wp execOp
  simp only [hop, resolve, invoke, builtin, Sem.run_bind, Sem.run_pure, Result.andThen_ok, List.map_toArray, List.map_cons, List.map_nil, hs, hx, hr]
  exact h v' w' h2 h3 h5
/-- Elements of their own whose cells are xs. -/
def ElAll (w : World) (k : Nat) : List Dat → List Value → List Nat → Prop
  | [], xs, F => xs = [] ∧ F = []
  | d :: r, xs, F => ∃ cs ys F1 F2, xs = cs ++ ys ∧ F = F1 ++ F2 ∧ cs.length = k ∧ OwnD w d cs F1 ∧ ElAll w k r ys F2
theorem ElAll.agree {w w' : World} (hs : w.heap.size ≤ w'.heap.size) {k : Nat} : ∀ (l : List Dat) {xs : List Value} {F : List Nat}, ElAll w k l xs F → (∀ b ∈ F, w'.heap[b]? = w.heap[b]?) → ElAll w' k l xs F
  | [], _, _, h, _ => h
  | d :: r, xs, F, h, ha => by
    obtain ⟨cs, ys, F1, F2, rfl, rfl, hk, hd, hr⟩ := h
    exact ⟨cs, ys, F1, F2, rfl, rfl, hk, OwnD.agree hs d hd (fun b hb => ha b (List.mem_append_left _ hb)), ElAll.agree hs r hr (fun b hb => ha b (List.mem_append_right _ hb))⟩
theorem ElAll.snoc {w : World} {k : Nat} {d : Dat} {cs : List Value} {G : List Nat} (hk : cs.length = k) (hd : OwnD w d cs G) : ∀ (l : List Dat) {xs : List Value} {F : List Nat}, ElAll w k l xs F → ElAll w k (l ++ [d]) (xs ++ cs) (F ++ G)
  | [], xs, F, h => by
    obtain ⟨rfl, rfl⟩ := h
    exact ⟨cs, [], G, [], by simp, by simp, hk, hd, rfl, rfl⟩
  | x :: r, xs, F, h => by
    obtain ⟨c1, ys, F1, F2, rfl, rfl, hk1, hd1, hr⟩ := h
    exact ⟨c1, ys ++ cs, F1, F2 ++ G, by simp, by simp, hk1, hd1, ElAll.snoc hk hd r hr⟩
theorem ElAll.own {w : World} {k g : Nat} : ∀ (l : List Dat) {i : Nat} {xs : List Value} {F : List Nat}, ElAll w k l xs F → (∀ m u, xs[m]? = some u → w.cell? ⟨g, i * k + m, none⟩ = some u ∧ w.frozen? ⟨g, i * k + m, none⟩ = false) → OwnAll w k g i l F
  | [], i, xs, F, h, _ => by
    obtain ⟨rfl, rfl⟩ := h
    rw [OwnAll]
  | d :: r, i, xs, F, h, hc => by
    obtain ⟨cs, ys, F1, F2, rfl, rfl, hk, hd, hr⟩ := h
    rw [OwnAll]
    refine ⟨cs, F1, F2, rfl, hk, fun m u hm => ?_, hd, ElAll.own r hr (fun m u hm => ?_)⟩
    · have hml : m < cs.length := by
        rcases Nat.lt_or_ge m cs.length with h | h
        · exact h
        · rw [List.getElem?_eq_none h] at hm; cases hm
      exact hc m u (by rw [List.getElem?_append_left hml]; exact hm)
    · have := hc (k + m) u (by rw [List.getElem?_append_right (by omega), hk, Nat.add_sub_cancel_left]; exact hm)
      rw [show i * k + (k + m) = (i + 1) * k + m by rw [Nat.succ_mul]; omega] at this
      exact this
/-- A list under way. -/
structure Bd (base : Nat) (w : World) (t : TypeId) (k : Nat) (v : Value) (l : List Dat) (xs : List Value) (F : List Nat) : Prop where
  row : w.ownsRow base t k v l.length xs
  el : ElAll w k l xs F
  fr : Fr base w.heap.size F
  sep : ∀ b, v.ownBlock = some b → b ∉ F
theorem Bd.nil (base : Nat) (w : World) (t : TypeId) (k : Nat) : Bd base w t k (.slice none 0 0) [] [] [] := ⟨World.ownsRow_nil _ _ _ _, ⟨rfl, rfl⟩, Fr.nil _ _, fun b hb => by cases hb⟩
theorem Later.kept {w w' : World} (h : Later w w') (lo : Nat) : Kept lo w w' := ⟨h.size, fun b _ hb => h.block b hb⟩
theorem Kept.trans {lo : Nat} {a b c : World} (h : Kept lo a b) (k : Kept lo b c) : Kept lo a c := ⟨Nat.le_trans h.size k.size, fun x hx hl => by rw [k.block x hx (Nat.lt_of_lt_of_le hl h.size), h.block x hx hl]⟩
theorem Kept.mono {lo lo' : Nat} {a b : World} (h : Kept lo a b) (hl : lo ≤ lo') : Kept lo' a b := ⟨h.size, fun x hx => h.block x (by omega)⟩
theorem row_kept {base : Nat} {w w' : World} {t : TypeId} {k n : Nat} {v : Value} {xs : List Value} (h : w.ownsRow base t k v n xs) (hk : Kept base w w') : w'.ownsRow base t k v n xs := by
  refine ⟨h.1, ?_⟩
  rcases h.2 with e | ⟨g, cap, cur, rfl, h1, h2, h3⟩
  · exact .inl e
  · exact .inr ⟨g, cap, cur, rfl, h1, by rw [hk.block g h1 (h.lt g rfl).2]; exact h2, h3⟩
theorem Bd.kept {base : Nat} {w w' : World} {t : TypeId} {k : Nat} {v : Value} {l : List Dat} {xs : List Value} {F : List Nat} (h : Bd base w t k v l xs F) (hl : Kept base w w') : Bd base w' t k v l xs F :=
  ⟨row_kept h.row hl, ElAll.agree hl.size l h.el (fun b hb => hl.block b (h.fr.2 b hb).1 (h.fr.2 b hb).2), h.fr.mono (Nat.le_refl _) hl.size, h.sep⟩
theorem Bd.later {base : Nat} {w w' : World} {t : TypeId} {k : Nat} {v : Value} {l : List Dat} {xs : List Value} {F : List Nat} (h : Bd base w t k v l xs F) (hl : Later w w') : Bd base w' t k v l xs F := h.kept (hl.kept _)
theorem Bd.push {base : Nat} {wr w1 w2 w' : World} {t : TypeId} {k : Nat} {v v' : Value} {l : List Dat} {xs : List Value} {F : List Nat} (h : Bd base wr t k v l xs F) {d : Dat} {cs : List Value} {G : List Nat} (hk : cs.length = k) (hd : Own wr.heap.size w1 d cs G) (l1 : Kept base wr w1) (l2 : Kept base w1 w2) (hbase : base ≤ wr.heap.size)
    (ho : w'.ownsRow base t k v' (l.length + 1) (xs ++ cs)) (hg : w2.grownBy w' v.ownBlock) (hloc : v'.ownBlock = v.ownBlock ∨ v'.ownBlock = some w2.heap.size) : Bd base w' t k v' (l ++ [d]) (xs ++ cs) (F ++ G) := by
  have s1 := l1.size
  have s2 := l2.size
  have s3 := hg.size
  have hF : ∀ b ∈ F, w'.heap[b]? = wr.heap[b]? := fun b hb => by
    have := h.fr.2 b hb
    rw [hg.block b (by omega) (fun e => h.sep b e.symm hb), l2.block b (by omega) (by omega), l1.block b (by omega) (by omega)]
  have hG : ∀ b ∈ G, w'.heap[b]? = w1.heap[b]? := fun b hb => by
    have := hd.fresh b hb
    rw [hg.block b (by omega) (fun e => by have := (h.row.lt b e.symm).2; omega), l2.block b (by omega) (by omega)]
  refine ⟨by rw [List.length_append]; exact ho, ElAll.snoc hk (OwnD.agree (by omega) _ hd.own hG) _ (ElAll.agree (by omega) _ h.el hF), (h.fr.app hd.fr hbase s1).mono (Nat.le_refl _) (by omega), fun b hb hm => ?_⟩
  rcases hloc with e | e
  · rw [e] at hb
    rcases List.mem_append.1 hm with q | q
    · exact h.sep b hb q
    · have := (h.row.lt b hb).2
      have := hd.fresh b q
      omega
  · rw [e] at hb
    cases hb
    rcases List.mem_append.1 hm with q | q
    · have := h.fr.2 _ q; omega
    · have := hd.fresh _ q; omega
theorem Bd.done {base : Nat} {w : World} {t : TypeId} {k : Nat} {v : Value} {l : List Dat} {xs : List Value} {F : List Nat} (h : Bd base w t k v l xs F) (hs : l.length ≤ 1048576) : ∃ G, Own base w (.list k l) [v] G := by
  rcases h.row.2 with ⟨rfl, e⟩ | ⟨g, cap, cur, rfl, h1, h2, h3, h4, h5, h6⟩
  · refine ⟨[], Own.mk' ?_ (Fr.nil _ _)⟩
    rw [OwnD]
    exact ⟨none, 0, by rw [e], ⟨hs, by omega, by unfold maxLen; omega⟩, fun hp => by omega, fun _ => rfl⟩
  · have hlt := (h.row.lt g rfl).2
    rcases Nat.eq_zero_or_pos l.length with h0 | h0
    · refine ⟨[], Own.mk' ?_ (Fr.nil _ _)⟩
      rw [OwnD]
      exact ⟨_, cap, rfl, ⟨hs, h3, h4⟩, fun hp => by omega, fun _ => rfl⟩
    · refine ⟨g :: F, Own.mk' ?_ ⟨List.nodup_cons.2 ⟨h.sep g rfl, h.fr.1⟩, fun b hb => ?_⟩⟩
      · rw [OwnD]
        refine ⟨_, cap, rfl, ⟨hs, h3, h4⟩, fun _ => ⟨g, F, rfl, rfl, hlt, ElAll.own l h.el (fun m u hm => ?_)⟩, fun hp => by omega⟩
        rw [Nat.zero_mul, Nat.zero_add]
        have hm' : m < l.length * k := by
          rw [← h.row.1]
          rcases Nat.lt_or_ge m xs.length with q | q
          · exact q
          · rw [List.getElem?_eq_none q] at hm; cases hm
        exact ⟨by rw [h.row.cellAt m hm']; exact hm, h.row.frozenAt m⟩
      · rcases List.mem_cons.1 hb with rfl | hb
        · exact ⟨h1, hlt⟩
        · exact h.fr.2 b hb
/-- The reader's box: what is left, to be read, and whether the end was met. -/
structure Rb (B : Nat) (w : World) (R : Nat) (s : RS) : Prop where
  lt : R < B
  hB : B ≤ w.heap.size
  cur : ∃ a cap, w.cell? ⟨R, 0, none⟩ = some (.slice a s.rest.length cap) ∧ s.rest.length ≤ cap ∧ cap ≤ 1048576 ∧ (0 < s.rest.length → ∃ g off, a = some ⟨g, off, none⟩ ∧ g < B ∧ g ≠ R ∧ ∀ j (h : j < s.rest.length), w.cell? ⟨g, off + j, none⟩ = some (.int .u8 s.rest[j]))
  c1 : w.cell? ⟨R, 1, none⟩ = some (.bool s.fin)
  f0 : w.frozen? ⟨R, 0, none⟩ = false
  f1 : w.frozen? ⟨R, 1, none⟩ = false
  by8 : s.By
theorem Rb.below {B : Nat} {w w' : World} {R : Nat} {s : RS} (h : Rb B w R s) (l : Below B w w') : Rb B w' R s := by
  obtain ⟨lt, hB, ⟨a, cap, c0, h1, h2, h3⟩, c1, f0, f1, hb⟩ := h
  refine ⟨lt, Nat.le_trans hB l.size, ⟨a, cap, by rw [Below.cell l (p := ⟨R, 0, none⟩) lt]; exact c0, h1, h2, fun hp => ?_⟩, by rw [Below.cell l (p := ⟨R, 1, none⟩) lt]; exact c1, by rw [Below.frozen l (p := ⟨R, 0, none⟩) lt]; exact f0, by rw [Below.frozen l (p := ⟨R, 1, none⟩) lt]; exact f1, hb⟩
  obtain ⟨g, off, e, hg, hn, hc⟩ := h3 hp
  exact ⟨g, off, e, hg, hn, fun j hj => by rw [Below.cell l (p := ⟨g, off + j, none⟩) hg]; exact hc j hj⟩
theorem Rb.later {B : Nat} {w w' : World} {R : Nat} {s : RS} (h : Rb B w R s) (l : Later w w') : Rb B w' R s := h.below (Below.mono l h.hB)
/-- A row of bytes as it is taken off: with no room behind it. -/
def Tkn (w : World) (v : Value) (L : List Int) : Prop := ∃ a, v = .slice a L.length L.length ∧ (0 < L.length → ∃ g off, a = some ⟨g, off, none⟩ ∧ ∀ j (h : j < L.length), w.cell? ⟨g, off + j, none⟩ = some (.int .u8 L[j]))
set_option maxHeartbeats 1000000 in
theorem take_any {B : Nat} {w : World} {R : Nat} {s : RS} (h : Rb B w R s) (k : Nat) (hk : 1 ≤ k) :
    Calls Try.prog 45 #[.pointer (some ⟨R, 0, none⟩), .int .i64 (k : Int)] w fun e w' => ∃ v, e = .returned v ∧ Tkn w' v (tkL k s) ∧ Rb B w' R (tkS k s) ∧ OnlyK R w w' := by
  obtain ⟨lt, hB, ⟨a, cap, c0, h1, h2, h3⟩, c1, f0, f1, hb⟩ := h
  have hb2 := By.tk hb k
  by_cases hc : k ≤ s.rest.length
  · obtain ⟨g, off, rfl, hg, hn, hcs⟩ := h3 (by omega)
    refine (take_yes R g off s.rest.length cap k w c0 f0 hc h1 h2).mono ?_
    rintro e w' ⟨rfl, o, rfl, ho⟩
    have eL : tkL k s = s.rest.take k := by unfold tkL; rw [if_pos hc]
    have eS : tkS k s = ⟨s.rest.drop k, s.fin⟩ := by unfold tkS; rw [if_pos hc]
    have lL : (s.rest.take k).length = k := by rw [List.length_take]; omega
    rw [eS] at hb2
    refine ⟨_, rfl, ?_, ?_, (OnlyK.refl _ _).set 0 _⟩
    · rw [eL]
      refine ⟨_, by rw [lL], fun _ => ⟨g, off, rfl, fun j hj => ?_⟩⟩
      rw [set_block _ _ _ _ hn, List.getElem_take]
      exact hcs j (by omega)
    · rw [eS]
      refine ⟨lt, by simpa using hB, ⟨_, cap - k, by rw [set_same c0, List.length_drop], by rw [List.length_drop]; omega, by omega, fun hp => ?_⟩, by rw [set_off _ _ _ (by decide)]; exact c1, by rw [World.frozen?_setCell]; exact f0, by rw [World.frozen?_setCell]; exact f1, hb2⟩
      rw [List.length_drop] at hp
      have e := ho (by omega)
      subst e
      refine ⟨g, off + k, rfl, hg, hn, fun j hj => ?_⟩
      rw [List.length_drop] at hj
      rw [set_block _ _ _ _ hn, List.getElem_drop, Nat.add_assoc]
      exact hcs (k + j) (by omega)
  · refine (take_no R a s.rest.length cap s.fin k w c0 c1 f1 (by omega)).mono ?_
    rintro e w' ⟨rfl, rfl⟩
    have eL : tkL k s = [] := by unfold tkL; rw [if_neg hc]
    have eS : tkS k s = ⟨s.rest, true⟩ := by unfold tkS; rw [if_neg hc]
    rw [eS] at hb2
    refine ⟨_, rfl, ?_, ?_, (OnlyK.refl _ _).set 1 _⟩
    · rw [eL]
      exact ⟨none, rfl, fun hp => absurd hp (Nat.lt_irrefl _)⟩
    · rw [eS]
      refine ⟨lt, by simpa using hB, ⟨a, cap, by rw [set_off _ _ _ (by decide)]; exact c0, h1, h2, fun hp => ?_⟩, set_same c1, by rw [World.frozen?_setCell]; exact f0, by rw [World.frozen?_setCell]; exact f1, hb2⟩
      obtain ⟨g, off, e, hg, hn, hcs⟩ := h3 hp
      exact ⟨g, off, e, hg, hn, fun j hj => by rw [set_block _ _ _ _ hn]; exact hcs j hj⟩
end Go.Proofs.Ytlfkjjnhlkaipaa
