/- Every expression put behind a text, by the model. -/
import Derived.Test.YtbigjeejmacjcaaGreatDoorT41
namespace Go.Proofs.YtbigjeejmacjcaaGreatDoor
open Go.RowKit Go.Lib
/-- What a node must be for its text to be told. -/
structure NodeOk (l : List Sc) (k n tk tn : Int) (name : List Int) (m : Nat) : Prop where
  k0 : 0 ≤ k
  k13 : k ≤ 13
  n64 : InR n
  many : m ≤ 1000
  short : name.length ≤ 1000
  st : k = 2 ∨ k = 4 → 0 ≤ n ∧ n < l.length
  op : k = 10 → 0 ≤ n ∧ n < 7
  nm : k = 3 ∨ k = 6 ∨ k = 7 → 1 ≤ name.length
  one : k = 7 ∨ k = 8 ∨ k = 10 → 1 ≤ m
  two : k = 8 ∨ k = 10 → 2 ≤ m
  ty : k = 5 → tk = 3 ∨ tk = 6 → 0 ≤ tn ∧ tn < l.length
inductive Ex.Fine (l : List Sc) : Ex → Prop
  | mk {k n tk tn : Int} {name : List Int} {kids : List Ex} (h : NodeOk l k n tk tn name kids.length) (hs : ∀ x ∈ kids, Ex.Fine l x) : Ex.Fine l (.mk k n tk tn name kids)
/-- What is asked of the structs' names. -/
def NamesFit (l : List Sc) : Prop := ∀ x ∈ l, 1 ≤ x.name.length ∧ x.name.length ≤ 1000
theorem kid_of {W : World} {l : List Sc} {sv : Value} {a : Option Addr} {n cap : Nat} {kids : List Ex} (h1 : RdL W 6 (.slice a n cap) (Ex.dats kids)) (j : Nat) (hj : j < kids.length) (hn : n = kids.length)
    (ih : ∀ A w v v0 v1 zs, RdN W v0 kids[j].name → RdL W 6 v1 (Ex.dats kids[j].kids) → Bf A W w v zs → zs.length + (Ex.say l kids[j]).length ≤ 1000000 → Calls Tryz.prog 53 #[v, .agg #[.int .i64 kids[j].kind, .int .i64 kids[j].n, .int .i64 kids[j].tk, .int .i64 kids[j].tn, v0, v1], sv] w (SayP A W (zs ++ Ex.say l kids[j]))) :
    Kid W sv (.slice a n cap) kids.length j (Ex.say l kids[j]) := by
  obtain ⟨g, off, u0, u1, rfl, hgs, c0, c1, c2, c3, c4, c5, r0, r1⟩ := Ex.elem h1 j hj
  refine ⟨hj, g, off, cap, _, _, _, _, u0, u1, by rw [hn], hgs, fun w' hw => ?_, fun A w v zs hB hl => ih A w v u0 u1 zs r0 r1 hB hl⟩
  exact ⟨by rw [hw.cell (p := ⟨g, off + j * 6, none⟩) hgs]; exact c0, by rw [hw.cell (p := ⟨g, off + j * 6 + 1, none⟩) hgs]; exact c1, by rw [hw.cell (p := ⟨g, off + j * 6 + 2, none⟩) hgs]; exact c2, by rw [hw.cell (p := ⟨g, off + j * 6 + 3, none⟩) hgs]; exact c3, by rw [hw.cell (p := ⟨g, off + j * 6 + 4, none⟩) hgs]; exact c4, by rw [hw.cell (p := ⟨g, off + j * 6 + 5, none⟩) hgs]; exact c5⟩
theorem says_get (l : List Sc) (xs : List Ex) (j : Nat) (h : j < (Ex.says l xs).length) (h' : j < xs.length) : (Ex.says l xs)[j] = Ex.say l xs[j] := by
  have := Ex.says_at l xs j h'
  unfold kidL at this
  rw [List.getD_eq_getElem?_getD, List.getElem?_eq_getElem h] at this
  exact this
theorem fourteen {k : Int} (h0 : 0 ≤ k) (h1 : k ≤ 13) : k = 0 ∨ k = 1 ∨ k = 2 ∨ k = 3 ∨ k = 4 ∨ k = 5 ∨ k = 6 ∨ k = 7 ∨ k = 8 ∨ k = 9 ∨ k = 10 ∨ k = 11 ∨ k = 12 ∨ k = 13 := by omega
theorem say_all {W : World} {l : List Sc} {sv : Value} (hl : RdL W 2 sv (Sc.dats l)) (hnm : NamesFit l) (N : Nat) : ∀ (x : Ex), x.sz < N → Ex.Fine l x → ∀ A w v v0 v1 zs, RdN W v0 x.name → RdL W 6 v1 (Ex.dats x.kids) → Bf A W w v zs → zs.length + (Ex.say l x).length ≤ 1000000 →
    Calls Tryz.prog 53 #[v, .agg #[.int .i64 x.kind, .int .i64 x.n, .int .i64 x.tk, .int .i64 x.tn, v0, v1], sv] w (SayP A W (zs ++ Ex.say l x)) := by
  induction N with
  | zero =>
    intro x hx
    exact absurd hx (Nat.not_lt_zero _)
  | succ N ih =>
    intro x hx hf A w v v0 v1 zs h0 h1 hB hb
    cases hf with
    | @mk k n tk tn name kids h hs =>
    replace h0 : RdN W v0 name := h0
    replace h1 : RdL W 6 v1 (Ex.dats kids) := h1
    show Calls Tryz.prog 53 #[v, .agg #[.int .i64 k, .int .i64 n, .int .i64 tk, .int .i64 tn, v0, v1], sv] w (SayP A W (zs ++ Ex.say l (.mk k n tk tn name kids)))
    obtain ⟨a1, cap1, rfl, hsl⟩ := Ex.slice h1
    have hsz : ∀ (j : Nat) (hj : j < kids.length), kids[j].sz < N := fun j hj => by
      have := Ex.sz_at kids j hj
      rw [Ex.sz] at hx
      omega
    have hK : ∀ (j : Nat) (hj : j < kids.length), Kid W sv (.slice a1 kids.length cap1) kids.length j (Ex.say l kids[j]) := fun j hj => kid_of h1 j hj rfl (ih kids[j] (hsz j hj) (hs _ (List.getElem_mem hj)))
    have hKs : Kids W sv (.slice a1 kids.length cap1) (Ex.says l kids) := ⟨a1, cap1, by rw [Ex.says_len], fun j hj => by
      have hj' : j < kids.length := by rw [← Ex.says_len l]; exact hj
      rw [says_get l kids j hj hj', Ex.says_len]
      exact hK j hj'⟩
    have hm : (Ex.says l kids).length ≤ 1000 := by rw [Ex.says_len]; exact h.many
    have hk0 : ∀ (hj : 0 < kids.length), kidL (Ex.says l kids) 0 = Ex.say l kids[0] := fun hj => Ex.says_at l kids 0 hj
    have hk1 : ∀ (hj : 1 < kids.length), kidL (Ex.says l kids) 1 = Ex.say l kids[1] := fun hj => Ex.says_at l kids 1 hj
    rw [Ex.say] at hb ⊢
    generalize Ex.says l kids = ts at *
    have hbz : zs.length ≤ 1000000 := by omega
    have hsh := h.short
    obtain rfl | rfl | rfl | rfl | rfl | rfl | rfl | rfl | rfl | rfl | rfl | rfl | rfl | rfl := fourteen h.k0 h.k13
    · exact say_0 A W w v sv v0 _ zs n tk tn hB hbz h.n64
    · exact say_1 A W w v sv v0 _ zs n tk tn hB hbz
    · exact say_2 A W w v sv v0 _ zs n tk tn hB hbz l hl (h.st (.inl rfl)).1 (h.st (.inl rfl)).2 hnm
    · exact say_3 A W w v sv v0 _ zs n tk tn hB hbz name h0 (h.nm (.inl rfl)) hsh
    · exact say_4 A W w v sv v0 _ zs n tk tn hB hbz l hl (h.st (.inr rfl)).1 (h.st (.inr rfl)).2 hnm
    · have e : exL l 5 n tk tn name ts = [32, 109, 97, 107, 101] ++ sayTy l tk tn ++ [32, 40] ++ joinL ts ++ [32, 41] := rfl
      rw [e] at hb ⊢
      exact say_5 A W w v sv v0 _ zs n tk tn hB l hl (h.ty rfl) hnm ts hKs hm (by simp only [List.length_append, List.length_cons, List.length_nil] at hb; omega)
    · have e : exL l 6 n tk tn name ts = [32] ++ name ++ [32, 40] ++ joinL ts ++ [32, 41] := rfl
      rw [e] at hb ⊢
      exact say_6 A W w v sv v0 _ zs n tk tn hB ts name hKs hm h0 (h.nm (.inr (.inl rfl))) (by simp only [List.length_append, List.length_cons, List.length_nil] at hb; omega)
    · have hj : 0 < kids.length := h.one (.inl rfl)
      have e : exL l 7 n tk tn name ts = Ex.say l kids[0] ++ [32, 46, 32] ++ name := by rw [← hk0 hj]; rfl
      rw [e] at hb ⊢
      exact say_7 A W w v sv v0 _ zs n tk tn hB _ _ name (hK 0 hj) h0 (h.nm (.inr (.inr rfl))) (by simp only [List.length_append, List.length_cons, List.length_nil] at hb; omega)
    · have hj : 1 < kids.length := h.two (.inl rfl)
      have e : exL l 8 n tk tn name ts = Ex.say l kids[0] ++ ([32, 91] : List Int) ++ Ex.say l kids[1] ++ ([32, 93] : List Int) := by rw [← hk0 (by omega), ← hk1 hj]; rfl
      rw [e] at hb ⊢
      exact say_8 A W w v sv v0 _ zs n tk tn hB _ _ _ (hK 0 (by omega)) (hK 1 hj) (by simp only [List.length_append, List.length_cons, List.length_nil] at hb; omega)
    · have e : exL l 9 n tk tn name ts = [32, 108, 101, 110] ++ [32, 40] ++ joinL ts ++ [32, 41] := rfl
      rw [e] at hb ⊢
      exact say_9 A W w v sv v0 _ zs n tk tn hB ts hKs hm (by simp only [List.length_append, List.length_cons, List.length_nil] at hb; omega)
    · have hj : 1 < kids.length := h.two (.inr rfl)
      have e : exL l 10 n tk tn name ts = ([32, 40] : List Int) ++ Ex.say l kids[0] ++ (32 :: opL n) ++ Ex.say l kids[1] ++ ([32, 41] : List Int) := by rw [← hk0 (by omega), ← hk1 hj]; rfl
      rw [e] at hb ⊢
      exact say_10 A W w v sv v0 _ zs n tk tn hB _ _ _ (hK 0 (by omega)) (hK 1 hj) (h.op rfl).1 (h.op rfl).2 (by simp only [List.length_append, List.length_cons, List.length_nil] at hb; omega)
    · exact say_11 A W w v sv v0 _ zs n tk tn hB hbz
    · have e : exL l 12 n tk tn name ts = [32, 105, 110, 116] ++ [32, 40] ++ joinL ts ++ [32, 41] := rfl
      rw [e] at hb ⊢
      exact say_12 A W w v sv v0 _ zs n tk tn hB ts hKs hm (by simp only [List.length_append, List.length_cons, List.length_nil] at hb; omega)
    · have e : exL l 13 n tk tn name ts = [32, 102, 108, 111, 97, 116] ++ [32, 40] ++ joinL ts ++ [32, 41] := rfl
      rw [e] at hb ⊢
      exact say_13 A W w v sv v0 _ zs n tk tn hB ts hKs hm (by simp only [List.length_append, List.length_cons, List.length_nil] at hb; omega)
theorem say_any {W : World} {l : List Sc} {sv : Value} (hl : RdL W 2 sv (Sc.dats l)) (hnm : NamesFit l) (x : Ex) (hf : Ex.Fine l x) (A w : World) (v v0 v1 : Value) (zs : List Int) (h0 : RdN W v0 x.name) (h1 : RdL W 6 v1 (Ex.dats x.kids)) (hB : Bf A W w v zs) (hb : zs.length + (Ex.say l x).length ≤ 1000000) :
    Calls Tryz.prog 53 #[v, .agg #[.int .i64 x.kind, .int .i64 x.n, .int .i64 x.tk, .int .i64 x.tn, v0, v1], sv] w (SayP A W (zs ++ Ex.say l x)) :=
  say_all hl hnm _ x (Nat.lt_succ_self _) hf A w v v0 v1 zs h0 h1 hB hb
end Go.Proofs.YtbigjeejmacjcaaGreatDoor
