/- The reader of images as plain functions, as the program has it. -/
import Derived.Test.YtlfkjjnhlkaipaaB2
import Derived.Test.YtlfkjjnhlkaipaaG9
namespace Go.Proofs.Ytlfkjjnhlkaipaa
open Go.RowKit Go.Lib

/-- A reader: what is left, and whether its end was met. -/
structure RS where
  rest : List Int
  fin : Bool
def tkS (k : Nat) (s : RS) : RS := if k ≤ s.rest.length then ⟨s.rest.drop k, s.fin⟩ else ⟨s.rest, true⟩
def tkL (k : Nat) (s : RS) : List Int := if k ≤ s.rest.length then s.rest.take k else []
/-- Bytes as a number, low first. -/
def lowN : List Int → Int
  | [] => 0
  | a :: r => a + 256 * lowN r
def wr64 (n : Int) : Int := if n < 9223372036854775808 then n else n - 18446744073709551616
def nx8 (s : RS) : Int := lowN (tkL 1 s)
def nx16 (s : RS) : Int := lowN (tkL 2 s)
def nx64 (s : RS) : Int := wr64 (lowN (tkL 8 s))
def rep {X : Type} (one : RS → X × RS) : Nat → RS → List X × RS
  | 0, s => ([], s)
  | n + 1, s => if s.fin then ([], s) else ((one s).1 :: (rep one n (one s).2).1, (rep one n (one s).2).2)
def rdBo (s : RS) : Bool × RS := (nx8 s == 1, tkS 1 s)
def rdIn (s : RS) : Int × RS := (nx16 s, tkS 2 s)
def rdBs (s : RS) : Bs × RS := (.mk (rep rdBo (nx16 s).toNat (tkS 2 s)).1, (rep rdBo (nx16 s).toNat (tkS 2 s)).2)
def rdIs (s : RS) : Is × RS := (⟨nx8 s, nx8 (tkS 1 s), nx8 (tkS 1 (tkS 1 s)), nx8 (tkS 1 (tkS 1 (tkS 1 s))), nx64 (tkS 1 (tkS 1 (tkS 1 (tkS 1 s))))⟩, tkS 8 (tkS 1 (tkS 1 (tkS 1 (tkS 1 s)))))
def rdMa (s : RS) : Ma × RS := (.mk (nx16 s) (rep rdIn (nx16 (tkS 2 s)).toNat (tkS 2 (tkS 2 s))).1, (rep rdIn (nx16 (tkS 2 s)).toNat (tkS 2 (tkS 2 s))).2)
/-- Behind a code's four numbers. -/
def cd4 (s : RS) : RS := tkS 2 (tkS 2 (tkS 2 (tkS 2 s)))
def cdIs (s : RS) : List Is × RS := rep rdIs (nx16 (tkS 2 (tkS 2 s))).toNat (cd4 s)
def cdMa (s : RS) : List Ma × RS := rep rdMa (nx16 (tkS 2 (tkS 2 (tkS 2 s)))).toNat (cdIs s).2
def rdCd (s : RS) : Cd × RS := (.mk (nx16 s) (nx16 (tkS 2 s)) (cdIs s).1 (cdMa s).1, (cdMa s).2)
def im0 (s : RS) : RS := tkS 2 s
def imBs (s : RS) : List Bs × RS := rep rdBs (nx16 (im0 s)).toNat (tkS 2 (tkS 2 (tkS 2 (im0 s))))
def imCd (s : RS) : List Cd × RS := rep rdCd (nx16 (tkS 2 (im0 s))).toNat (imBs s).2
def rdIm (s : RS) : Im × RS := (.mk (imBs s).1 (imCd s).1 (nx16 (tkS 2 (tkS 2 (im0 s)))), (imCd s).2)

theorem tkL_app {k : Nat} {bs r : List Int} {f : Bool} (h : bs.length = k) : tkL k ⟨bs ++ r, f⟩ = bs := by
  unfold tkL
  rw [if_pos (by rw [List.length_append]; omega), ← h]
  exact List.take_left
theorem tkS_app {k : Nat} {bs r : List Int} {f : Bool} (h : bs.length = k) : tkS k ⟨bs ++ r, f⟩ = ⟨r, f⟩ := by
  unfold tkS
  rw [if_pos (by rw [List.length_append]; omega), ← h]
  rw [show (bs ++ r).drop bs.length = r from List.drop_left]
theorem two_rd {n : Int} (_ : W2 n) (r : List Int) (f : Bool) : nx16 ⟨twoL n ++ r, f⟩ = n := by
  unfold nx16
  rw [tkL_app (twoL_len n)]
  unfold twoL lowN lowN lowN
  omega
theorem two_tk (n : Int) (r : List Int) (f : Bool) : tkS 2 ⟨twoL n ++ r, f⟩ = ⟨r, f⟩ := tkS_app (twoL_len n)
theorem one_rd (n : Int) (r : List Int) (f : Bool) : nx8 ⟨n :: r, f⟩ = n := by
  have := tkL_app (k := 1) (bs := [n]) (r := r) (f := f) rfl
  unfold nx8
  rw [List.singleton_append] at this
  rw [this]
  unfold lowN lowN
  omega
theorem one_tk (n : Int) (r : List Int) (f : Bool) : tkS 1 ⟨n :: r, f⟩ = ⟨r, f⟩ := tkS_app (bs := [n]) rfl
theorem eight_rd {n : Int} (h : -9223372036854775808 ≤ n ∧ n ≤ 9223372036854775807) (r : List Int) (f : Bool) : nx64 ⟨eightL n 8 ++ r, f⟩ = n := by
  unfold nx64
  rw [tkL_app (eightL_len n 8)]
  have e : lowN (eightL n 8) = n % 18446744073709551616 := by
    simp only [eightL, List.nil_append, List.cons_append, lowN]
    simp only [Nat.reduceMul, Int.reducePow]
    omega
  rw [e]
  unfold wr64
  split <;> omega
theorem eight_tk (n : Int) (r : List Int) (f : Bool) : tkS 8 ⟨eightL n 8 ++ r, f⟩ = ⟨r, f⟩ := tkS_app (eightL_len n 8)
/-- What was written is read. -/
theorem rep_app {X : Type} {one : RS → X × RS} {enc : X → List Int} {encs : List X → List Int} (e0 : encs [] = []) (e1 : ∀ x l, encs (x :: l) = enc x ++ encs l) :
    ∀ (l : List X), (∀ x ∈ l, ∀ r, one ⟨enc x ++ r, false⟩ = (x, ⟨r, false⟩)) → ∀ r, rep one l.length ⟨encs l ++ r, false⟩ = (l, ⟨r, false⟩)
  | [], _, r => by rw [e0]; rfl
  | x :: l, h, r => by
    have hx := h x (List.mem_cons_self ..) (encs l ++ r)
    rw [e1, List.append_assoc, List.length_cons, rep, if_neg (by simp), hx]
    dsimp only
    rw [rep_app e0 e1 l (fun y hy => h y (List.mem_cons_of_mem _ hy)) r]
theorem bo_app (b : Bool) (r : List Int) : rdBo ⟨[bitL b] ++ r, false⟩ = (b, ⟨r, false⟩) := by
  unfold rdBo
  rw [List.singleton_append, one_rd, one_tk]
  cases b <;> rfl
theorem in_app {n : Int} (h : W2 n) (r : List Int) : rdIn ⟨twoL n ++ r, false⟩ = (n, ⟨r, false⟩) := by
  unfold rdIn
  rw [two_rd h, two_tk]
theorem bs_app {x : Bs} (h : W2 x.l.length) (r : List Int) : rdBs ⟨bsL x ++ r, false⟩ = (x, ⟨r, false⟩) := by
  obtain ⟨l⟩ := x
  unfold rdBs bsL
  dsimp only [Bs.l] at h ⊢
  rw [List.append_assoc, two_rd h, two_tk, Int.toNat_natCast, rep_app (enc := fun b => [bitL b]) (encs := List.map bitL) rfl (fun _ _ => rfl) l (fun x _ r => bo_app x r) r]
theorem is_app {i : Is} (h : i.Ok) (r : List Int) : rdIs ⟨isL i ++ r, false⟩ = (i, ⟨r, false⟩) := by
  obtain ⟨op, a, b, c, n⟩ := i
  unfold rdIs isL
  dsimp only
  simp only [List.cons_append, List.nil_append, one_rd, one_tk]
  rw [eight_rd h, eight_tk]
theorem ma_app {m : Ma} (h : W2 m.pc ∧ W2 m.slots.length ∧ ∀ s ∈ m.slots, W2 s) (r : List Int) : rdMa ⟨maL m ++ r, false⟩ = (m, ⟨r, false⟩) := by
  obtain ⟨pc, l⟩ := m
  obtain ⟨h1, h2, h3⟩ := h
  unfold rdMa maL
  dsimp only [Ma.pc, Ma.slots] at h1 h2 h3 ⊢
  rw [List.append_assoc, two_rd h1, two_tk, List.append_assoc, two_rd h2, two_tk, Int.toNat_natCast, rep_app (enc := twoL) (encs := slotsL) rfl (fun _ _ => rfl) l (fun x hx r => in_app (h3 x hx) r) r]
theorem cd_app {c : Cd} (h : c.Rg) (r : List Int) : rdCd ⟨cdL c ++ r, false⟩ = (c, ⟨r, false⟩) := by
  obtain ⟨f, p, is, ms⟩ := c
  obtain ⟨h1, h2, h3, h4, h5, h6⟩ := h
  dsimp only [Cd.frame, Cd.params, Cd.ins, Cd.maps] at h1 h2 h3 h4 h5 h6
  have e : cdIs ⟨cdL (.mk f p is ms) ++ r, false⟩ = (is, ⟨masL ms ++ r, false⟩) := by
    unfold cdIs cd4 cdL
    dsimp only [Cd.frame, Cd.params, Cd.ins, Cd.maps]
    simp only [List.append_assoc, two_tk]
    rw [two_rd h3, Int.toNat_natCast]
    exact rep_app (enc := isL) (encs := insL) rfl (fun _ _ => rfl) is (fun x hx r => is_app (h5 x hx).2.2.2.2 r) _
  have e2 : cdMa ⟨cdL (.mk f p is ms) ++ r, false⟩ = (ms, ⟨r, false⟩) := by
    unfold cdMa
    rw [e]
    unfold cdL
    dsimp only [Cd.frame, Cd.params, Cd.ins, Cd.maps]
    simp only [List.append_assoc, two_tk]
    rw [two_rd h4, Int.toNat_natCast]
    exact rep_app (enc := maL) (encs := masL) rfl (fun _ _ => rfl) ms (fun x hx r => ma_app (h6 x hx) r) _
  unfold rdCd
  rw [e, e2]
  unfold cdL
  dsimp only [Cd.frame, Cd.params, Cd.ins, Cd.maps]
  simp only [List.append_assoc, two_tk]
  rw [two_rd h1, two_rd h2]
theorem im_app {x : Im} (h : x.Rg) (r : List Int) : rdIm ⟨imL x ++ r, false⟩ = (x, ⟨r, false⟩) := by
  obtain ⟨ss, cs, mn⟩ := x
  obtain ⟨h1, h2, h3, h4, h5⟩ := h
  dsimp only [Im.structs, Im.codes, Im.main] at h1 h2 h3 h4 h5
  have e0 : im0 ⟨imL (.mk ss cs mn) ++ r, false⟩ = ⟨twoL ss.length ++ (twoL cs.length ++ (twoL mn ++ (bssL ss ++ (cdsL cs ++ r)))), false⟩ := by
    unfold im0 imL
    dsimp only [Im.structs, Im.codes, Im.main]
    rw [List.append_assoc, tkS_app (k := 2) (bs := [71, 73]) rfl]
    simp only [List.append_assoc]
  have e : imBs ⟨imL (.mk ss cs mn) ++ r, false⟩ = (ss, ⟨cdsL cs ++ r, false⟩) := by
    unfold imBs
    rw [e0, two_rd h1, two_tk, two_tk, two_tk, Int.toNat_natCast]
    exact rep_app (enc := bsL) (encs := bssL) rfl (fun _ _ => rfl) ss (fun x hx r => bs_app (h4 x hx) r) _
  have e2 : imCd ⟨imL (.mk ss cs mn) ++ r, false⟩ = (cs, ⟨r, false⟩) := by
    unfold imCd
    rw [e, e0, two_tk, two_rd h2, Int.toNat_natCast]
    exact rep_app (enc := cdL) (encs := cdsL) rfl (fun _ _ => rfl) cs (fun x hx r => cd_app (h5 x hx) r) _
  unfold rdIm
  rw [e, e2, e0, two_tk, two_tk, two_rd h3]

theorem tkS_le (k : Nat) (s : RS) : (tkS k s).rest.length ≤ s.rest.length := by
  unfold tkS
  split
  · rw [List.length_drop]; exact Nat.sub_le _ _
  · exact Nat.le_refl _
theorem tkS_fin (k : Nat) (s : RS) (h : s.fin = true) : (tkS k s).fin = true := by
  unfold tkS
  split
  · exact h
  · rfl
/-- Whoever takes so many has them, or meets the end. -/
theorem tkS_cost (k : Nat) (s : RS) (hk : 1 ≤ k) : 1 + (tkS k s).rest.length ≤ s.rest.length + (if (tkS k s).fin then 1 else 0) := by
  unfold tkS
  split
  · rename_i h
    dsimp only
    rw [List.length_drop]
    omega
  · dsimp only
    rw [if_pos rfl]
    omega
theorem rep_cost {X : Type} {one : RS → X × RS} {c : X → Nat} {szs : List X → Nat} (e0 : szs [] = 0) (e1 : ∀ x l, szs (x :: l) = c x + szs l)
    (h : ∀ s : RS, s.fin = false → c (one s).1 + (one s).2.rest.length ≤ s.rest.length + (if (one s).2.fin then 1 else 0)) :
    ∀ (n : Nat) (s : RS), szs (rep one n s).1 + (rep one n s).2.rest.length ≤ s.rest.length + (if (rep one n s).2.fin then 1 else 0)
  | 0, s => by rw [rep, e0]; dsimp only; split <;> omega
  | n + 1, s => by
    rw [rep]
    cases hf : s.fin with
    | true => rw [if_pos rfl, e0]; dsimp only; split <;> omega
    | false =>
      rw [if_neg (by simp)]
      dsimp only
      rw [e1]
      have h1 := h s hf
      have h2 := rep_cost e0 e1 h n (one s).2
      cases hg : (one s).2.fin with
      | false =>
        rw [hg] at h1
        simp only [Bool.false_eq_true, if_false] at h1
        omega
      | true =>
        have hr : (rep one n (one s).2) = ([], (one s).2) := by
          cases n with
          | zero => rfl
          | succ n => rw [rep, if_pos hg]
        rw [hr] at h2 ⊢
        rw [hg] at h1 h2
        dsimp only at h1 h2 ⊢
        rw [hg]
        simp only [if_true] at h1 h2 ⊢
        rw [e0] at h2 ⊢
        omega
theorem rep_fin {X : Type} {one : RS → X × RS} : ∀ (n : Nat) (s : RS), s.fin = true → rep one n s = ([], s)
  | 0, _, _ => rfl
  | n + 1, s, hf => by rw [rep, if_pos hf]
/-- A piece of the reader that takes at least one byte, or meets the end. -/
structure Ch (t : RS → RS) : Prop where
  fin : ∀ s, s.fin = true → (t s).fin = true
  le : ∀ s, (t s).rest.length ≤ s.rest.length
  cost : ∀ s, 1 + (t s).rest.length ≤ s.rest.length + (if (t s).fin then 1 else 0)
theorem Ch.tk {k : Nat} (hk : 1 ≤ k) : Ch (tkS k) := ⟨tkS_fin k, tkS_le k, fun s => tkS_cost k s hk⟩
theorem Ch.comp {t u : RS → RS} (h : Ch t) (k : Ch u) : Ch (fun s => u (t s)) := by
  refine ⟨fun s hs => k.fin _ (h.fin _ hs), fun s => Nat.le_trans (k.le _) (h.le _), fun s => ?_⟩
  have h1 := h.cost s
  have h2 := k.le (t s)
  cases hf : (t s).fin with
  | false => rw [hf] at h1; simp only [Bool.false_eq_true, if_false] at h1; omega
  | true => have h3 := h.le s; rw [k.fin _ hf]; simp only [if_true]; omega
theorem ch2 : Ch (fun s => tkS 2 (tkS 2 s)) := (Ch.tk (by decide)).comp (Ch.tk (by decide))
theorem ch4 : Ch cd4 := ch2.comp ch2
theorem ch12 : Ch (fun s => tkS 8 (tkS 1 (tkS 1 (tkS 1 (tkS 1 s))))) := ((((Ch.tk (by decide)).comp (Ch.tk (by decide))).comp (Ch.tk (by decide))).comp (Ch.tk (by decide))).comp (Ch.tk (by decide))
/-- A list behind such a piece. -/
theorem ch_rep {t : RS → RS} (ht : Ch t) {X : Type} {one : RS → X × RS} {c : X → Nat} {szs : List X → Nat} (e0 : szs [] = 0) (e1 : ∀ x l, szs (x :: l) = c x + szs l)
    (h : ∀ s : RS, s.fin = false → c (one s).1 + (one s).2.rest.length ≤ s.rest.length + (if (one s).2.fin then 1 else 0)) (n : Nat) (s : RS) :
    1 + szs (rep one n (t s)).1 + (rep one n (t s)).2.rest.length ≤ s.rest.length + (if (rep one n (t s)).2.fin then 1 else 0) := by
  have h1 := ht.cost s
  cases hf : (t s).fin with
  | true => rw [rep_fin n _ hf, e0]; dsimp only; exact h1
  | false =>
    rw [hf] at h1
    simp only [Bool.false_eq_true, if_false] at h1
    have h2 := rep_cost e0 e1 h n (t s)
    omega
theorem co_bo (s : RS) (_ : s.fin = false) : 1 + (rdBo s).2.rest.length ≤ s.rest.length + (if (rdBo s).2.fin then 1 else 0) := tkS_cost 1 s (by decide)
theorem co_in (s : RS) (_ : s.fin = false) : 1 + (rdIn s).2.rest.length ≤ s.rest.length + (if (rdIn s).2.fin then 1 else 0) := tkS_cost 2 s (by decide)
theorem co_is (s : RS) (_ : s.fin = false) : 1 + (rdIs s).2.rest.length ≤ s.rest.length + (if (rdIs s).2.fin then 1 else 0) := ch12.cost s
theorem co_bs (s : RS) (_ : s.fin = false) : (1 + (rdBs s).1.sz) + (rdBs s).2.rest.length ≤ s.rest.length + (if (rdBs s).2.fin then 1 else 0) :=
  ch_rep (Ch.tk (k := 2) (by decide)) (c := fun _ : Bool => 1) (szs := Bo.szs) rfl (fun x l => by unfold Bo.szs; rw [List.length_cons]; omega) co_bo _ s
theorem co_ma (s : RS) (_ : s.fin = false) : (1 + (rdMa s).1.sz) + (rdMa s).2.rest.length ≤ s.rest.length + (if (rdMa s).2.fin then 1 else 0) :=
  ch_rep ch2 (c := fun _ : Int => 1) (szs := In.szs) rfl (fun x l => by unfold In.szs; rw [List.length_cons]; omega) co_in _ s
theorem co_cd (s : RS) (_ : s.fin = false) : (1 + (rdCd s).1.sz) + (rdCd s).2.rest.length ≤ s.rest.length + (if (rdCd s).2.fin then 1 else 0) := by
  have h1 : 1 + Is.szs (cdIs s).1 + (cdIs s).2.rest.length ≤ s.rest.length + (if (cdIs s).2.fin then 1 else 0) := ch_rep ch4 (c := fun _ : Is => 1) (szs := Is.szs) rfl (fun x l => by unfold Is.szs; rw [List.length_cons]; omega) co_is _ s
  show (1 + (Is.szs (cdIs s).1 + Ma.szs (cdMa s).1)) + (cdMa s).2.rest.length ≤ s.rest.length + (if (cdMa s).2.fin then 1 else 0)
  unfold cdMa
  cases hf : (cdIs s).2.fin with
  | true =>
    rw [rep_fin _ _ hf, hf]
    rw [hf] at h1
    dsimp only
    simp only [if_true] at h1 ⊢
    rw [Ma.szs]
    omega
  | false =>
    rw [hf] at h1
    simp only [Bool.false_eq_true, if_false] at h1
    have h2 := rep_cost (c := fun x : Ma => 1 + x.sz) (szs := Ma.szs) rfl (fun _ _ => rfl) co_ma (nx16 (tkS 2 (tkS 2 (tkS 2 s)))).toNat (cdIs s).2
    omega
/-- What is read is no greater than the bytes, nearly. -/
theorem rdIm_sz (s : RS) : (rdIm s).1.sz ≤ s.rest.length + 2 := by
  have h1 := rep_cost (c := fun x : Bs => 1 + x.sz) (szs := Bs.szs) rfl (fun _ _ => rfl) co_bs (nx16 (im0 s)).toNat (tkS 2 (tkS 2 (tkS 2 (im0 s))))
  have h2 := rep_cost (c := fun x : Cd => 1 + x.sz) (szs := Cd.szs) rfl (fun _ _ => rfl) co_cd (nx16 (tkS 2 (im0 s))).toNat (imBs s).2
  show Bs.szs (imBs s).1 + Cd.szs (imCd s).1 ≤ _
  have a1 := tkS_le 2 (tkS 2 (tkS 2 (im0 s)))
  have a2 := tkS_le 2 (tkS 2 (im0 s))
  have a3 := tkS_le 2 (im0 s)
  have a4 : (im0 s).rest.length ≤ s.rest.length := tkS_le 2 s
  change Bs.szs (imBs s).1 + (imBs s).2.rest.length ≤ _ at h1
  change Cd.szs (imCd s).1 + (imCd s).2.rest.length ≤ _ at h2
  have b1 : (if (rep rdBs (nx16 (im0 s)).toNat (tkS 2 (tkS 2 (tkS 2 (im0 s))))).2.fin = true then 1 else 0) ≤ 1 := by split <;> decide
  have b2 : (if (rep rdCd (nx16 (tkS 2 (im0 s))).toNat (imBs s).2).2.fin = true then 1 else 0) ≤ 1 := by split <;> decide
  omega
/-- All that is left are bytes. -/
def RS.By (s : RS) : Prop := ∀ z ∈ s.rest, 0 ≤ z ∧ z ≤ 255
theorem By.tk {s : RS} (h : s.By) (k : Nat) : (tkS k s).By := by
  unfold tkS
  split
  · exact fun z hz => h z (List.mem_of_mem_drop hz)
  · exact h
theorem By.tkL {s : RS} (h : s.By) (k : Nat) : ∀ z ∈ tkL k s, 0 ≤ z ∧ z ≤ 255 := by
  unfold Go.Proofs.Ytlfkjjnhlkaipaa.tkL
  split
  · exact fun z hz => h z (List.mem_of_mem_take hz)
  · exact fun z hz => by cases hz
theorem tkL_len (k : Nat) (s : RS) : (tkL k s).length = if k ≤ s.rest.length then k else 0 := by
  unfold tkL
  split
  · rw [List.length_take]; omega
  · rfl
theorem lowN_rg : ∀ (l : List Int), (∀ z ∈ l, 0 ≤ z ∧ z ≤ 255) → 0 ≤ lowN l ∧ lowN l < (256 : Int) ^ l.length
  | [], _ => by decide
  | a :: r, h => by
    have h1 := h a (List.mem_cons_self ..)
    have h2 := lowN_rg r (fun z hz => h z (List.mem_cons_of_mem _ hz))
    rw [lowN, List.length_cons, Int.pow_succ]
    omega
theorem nx8_rg {s : RS} (h : s.By) : 0 ≤ nx8 s ∧ nx8 s ≤ 255 := by
  have := lowN_rg _ (By.tkL h 1)
  unfold nx8
  rw [tkL_len] at this
  split at this <;> simp only [Int.reducePow] at this <;> omega
theorem nx16_rg {s : RS} (h : s.By) : 0 ≤ nx16 s ∧ nx16 s ≤ 65535 := by
  have := lowN_rg _ (By.tkL h 2)
  unfold nx16
  rw [tkL_len] at this
  split at this <;> simp only [Int.reducePow] at this <;> omega
theorem nx64_rg {s : RS} (h : s.By) : -9223372036854775808 ≤ nx64 s ∧ nx64 s ≤ 9223372036854775807 := by
  have := lowN_rg _ (By.tkL h 8)
  unfold nx64 wr64
  rw [tkL_len] at this
  split at this <;> simp only [Int.reducePow] at this <;> split <;> omega
theorem rep_all {X : Type} {one : RS → X × RS} {P : X → Prop} (h : ∀ s : RS, s.By → P (one s).1 ∧ (one s).2.By) : ∀ (n : Nat) (s : RS), s.By → (∀ x ∈ (rep one n s).1, P x) ∧ (rep one n s).2.By
  | 0, s, hs => ⟨fun x hx => (by cases hx), hs⟩
  | n + 1, s, hs => by
    rw [rep]
    split
    · exact ⟨fun x hx => (by cases hx), hs⟩
    · have h1 := h s hs
      have h2 := rep_all h n _ h1.2
      refine ⟨fun x hx => ?_, h2.2⟩
      rcases List.mem_cons.1 hx with rfl | hx
      · exact h1.1
      · exact h2.1 x hx
theorem by_bo {s : RS} (h : s.By) : True ∧ (rdBo s).2.By := ⟨trivial, By.tk h 1⟩
theorem by_in {s : RS} (h : s.By) : True ∧ (rdIn s).2.By := ⟨trivial, By.tk h 2⟩
theorem by_bs {s : RS} (h : s.By) : True ∧ (rdBs s).2.By := ⟨trivial, (rep_all (P := fun _ => True) (fun _ h => by_bo h) _ _ (By.tk h 2)).2⟩
theorem by_is {s : RS} (h : s.By) : (rdIs s).1.Ok ∧ (rdIs s).2.By := by
  have h4 := By.tk (By.tk (By.tk (By.tk h 1) 1) 1) 1
  have a := nx64_rg h4
  have b := By.tk h4 8
  unfold rdIs Is.Ok
  generalize tkS 1 (tkS 1 (tkS 1 (tkS 1 s))) = t at *
  exact ⟨a, b⟩
theorem by_ma {s : RS} (h : s.By) : True ∧ (rdMa s).2.By := ⟨trivial, (rep_all (P := fun _ => True) (fun _ h => by_in h) _ _ (By.tk (By.tk h 2) 2)).2⟩
theorem by_cd {s : RS} (h : s.By) : (∀ y ∈ (rdCd s).1.ins, y.Ok) ∧ (rdCd s).2.By := by
  have h1 := rep_all (P := Is.Ok) (fun _ h => by_is h) (nx16 (tkS 2 (tkS 2 s))).toNat _ (By.tk (By.tk (By.tk (By.tk h 2) 2) 2) 2)
  exact ⟨h1.1, (rep_all (P := fun _ => True) (fun _ h => by_ma h) _ _ h1.2).2⟩
theorem rdIm_ok {s : RS} (h : s.By) : ∀ c ∈ (rdIm s).1.codes, ∀ y ∈ c.ins, y.Ok :=
  (rep_all (P := fun c : Cd => ∀ y ∈ c.ins, y.Ok) (fun _ h => by_cd h) _ _ (rep_all (P := fun _ => True) (fun _ h => by_bs h) _ _ (By.tk (By.tk (By.tk (By.tk h 2) 2) 2) 2)).2).1
end Go.Proofs.Ytlfkjjnhlkaipaa
