/- The model's reader of images as plain functions; both readers answer alike. -/
import Derived.Test.YtlfkjjnhlkaipaaV11
namespace Go.Proofs.Ytlfkjjnhlkaipaa
open Go.RowKit Go.Lib

def badS : RS := ⟨[], true⟩
def mNum (most : Int) (s : RS) : Int × RS := if s.fin then (0, badS) else match s.rest with
  | a :: b :: r => if a + 256 * b ≤ most then (a + 256 * b, ⟨r, false⟩) else (0, badS)
  | _ => (0, badS)
def mOne (s : RS) : Is × RS := if s.fin = true ∨ s.rest.length < 12 then (⟨0, 0, 0, 0, 0⟩, badS) else (⟨s.rest.getD 0 0, s.rest.getD 1 0, s.rest.getD 2 0, s.rest.getD 3 0, wr64 (lowN ((s.rest.drop 4).take 8))⟩, ⟨s.rest.drop 12, false⟩)
def mBits : Nat → RS → List Bool × RS
  | 0, s => ([], s)
  | n + 1, s => if s.fin then ([], s) else match s.rest with
    | a :: r => if a ≤ 1 then ((a == 1) :: (mBits n ⟨r, false⟩).1, (mBits n ⟨r, false⟩).2) else ([], badS)
    | [] => ([], badS)
def mBs (s : RS) : Bs × RS := (.mk (mBits (mNum 5 s).1.toNat (mNum 5 s).2).1, (mBits (mNum 5 s).1.toNat (mNum 5 s).2).2)
def mMa1 (s : RS) : Int × RS := mNum 1000 (mNum 6000 s).2
def mMa (s : RS) : Ma × RS := (.mk (mNum 6000 s).1 (rep (mNum 1000) (mMa1 s).1.toNat (mMa1 s).2).1, (rep (mNum 1000) (mMa1 s).1.toNat (mMa1 s).2).2)
def mC1 (s : RS) : Int × RS := mNum 1000 s
def mC2 (s : RS) : Int × RS := mNum 4 (mC1 s).2
def mC3 (s : RS) : Int × RS := mNum 6000 (mC2 s).2
def mC4 (s : RS) : Int × RS := mNum 6000 (mC3 s).2
def mCi (s : RS) : List Is × RS := rep mOne (mC3 s).1.toNat (mC4 s).2
def mCm (s : RS) : List Ma × RS := rep mMa (mC4 s).1.toNat (mCi s).2
def mCd (s : RS) : Cd × RS := (.mk (mC1 s).1 (mC2 s).1 (mCi s).1 (mCm s).1, (mCm s).2)
def mI1 (s : RS) : Int × RS := mNum 6 s
def mI2 (s : RS) : Int × RS := mNum 8 (mI1 s).2
def mI3 (s : RS) : Int × RS := mNum 8 (mI2 s).2
def mIs (s : RS) : List Bs × RS := rep mBs (mI1 s).1.toNat (mI3 s).2
def mIc (s : RS) : List Cd × RS := rep mCd (mI2 s).1.toNat (mIs s).2
def mIm (s : RS) : Im × RS := (.mk (mIs s).1 (mIc s).1 (mI3 s).1, (mIc s).2)

theorem mNum_app {n most : Int} (h : 0 ≤ n ∧ n ≤ most) (r : List Int) : mNum most ⟨twoL n ++ r, false⟩ = (n, ⟨r, false⟩) := by
  unfold mNum twoL
  rw [if_neg (by simp)]
  dsimp only [List.cons_append, List.nil_append]
  have e : n % 256 + 256 * (n / 256) = n := by omega
  rw [e, if_pos h.2]
theorem mOne_app {i : Is} (h : i.Ok) (r : List Int) : mOne ⟨isL i ++ r, false⟩ = (i, ⟨r, false⟩) := by
  obtain ⟨op, a, b, c, n⟩ := i
  have hl := isL_len ⟨op, a, b, c, n⟩
  unfold mOne
  rw [if_neg (by dsimp only; rw [List.length_append, hl]; simp)]
  have e1 : (isL ⟨op, a, b, c, n⟩ ++ r).drop 4 = eightL n 8 ++ r := rfl
  have e2 : (eightL n 8 ++ r).take 8 = eightL n 8 := by rw [show (8 : Nat) = (eightL n 8).length from (eightL_len n 8).symm]; exact List.take_left
  have e3 : (isL ⟨op, a, b, c, n⟩ ++ r).drop 12 = r := by rw [show (12 : Nat) = (isL ⟨op, a, b, c, n⟩).length from hl.symm]; exact List.drop_left
  have e4 := eight_rd h [] false
  rw [List.append_nil] at e4
  have e5 : tkL 8 ⟨eightL n 8, false⟩ = eightL n 8 := by have := tkL_app (k := 8) (bs := eightL n 8) (r := []) (f := false) (eightL_len n 8); rwa [List.append_nil] at this
  unfold nx64 at e4
  dsimp only at e4
  rw [e5] at e4
  dsimp only
  rw [e1, e2, e3, e4]
  rfl
theorem mBits_app : ∀ (l : List Bool) (r : List Int), mBits l.length ⟨l.map bitL ++ r, false⟩ = (l, ⟨r, false⟩)
  | [], r => rfl
  | b :: l, r => by
    rw [List.length_cons, mBits, if_neg (by simp)]
    show (if bitL b ≤ 1 then ((bitL b == 1) :: (mBits l.length ⟨l.map bitL ++ r, false⟩).1, (mBits l.length ⟨l.map bitL ++ r, false⟩).2) else ([], badS)) = _
    rw [if_pos (by cases b <;> decide), mBits_app l r]
    cases b <;> rfl
/-- The bounds that the model asks for. -/
structure Cd.Bd (c : Cd) : Prop where
  fr : 0 ≤ c.frame ∧ c.frame ≤ 1000
  pr : 0 ≤ c.params ∧ c.params ≤ 4
  il : 0 ≤ (c.ins.length : Int) ∧ (c.ins.length : Int) ≤ 6000
  ml : 0 ≤ (c.maps.length : Int) ∧ (c.maps.length : Int) ≤ 6000
  ins : ∀ i ∈ c.ins, i.Ok
  maps : ∀ m ∈ c.maps, (0 ≤ m.pc ∧ m.pc ≤ 6000) ∧ (0 ≤ (m.slots.length : Int) ∧ (m.slots.length : Int) ≤ 1000) ∧ ∀ s ∈ m.slots, 0 ≤ s ∧ s ≤ 1000
theorem cdB_bd {ns nc : Int} {c : Cd} (h : cdB ns nc c = true) (hok : ∀ y ∈ c.ins, y.Ok) : c.Bd := by
  unfold cdB at h
  rw [Bool.and_eq_true, Bool.and_eq_true, Bool.and_eq_true, Bool.and_eq_true, inB_iff, inB_iff, inB_iff, List.all_eq_true] at h
  obtain ⟨h1, h2, h3, h4, h5⟩ := h
  obtain ⟨m1, m2⟩ := mpB_mem c.frame c.ins 0 c.maps h5
  refine ⟨by omega, by omega, by omega, by omega, hok, fun m hm => ?_⟩
  obtain ⟨a, b, d⟩ := m2 m hm
  have l := slB_len c.frame m.slots 3 d (by omega)
  refine ⟨by omega, by omega, fun s hs => ?_⟩
  have := slB_mem c.frame m.slots 3 d s hs
  exact ⟨Int.le_trans (by decide) this.1, Int.le_trans this.2 (by omega)⟩
theorem mBs_app {x : Bs} (h : 0 ≤ (x.l.length : Int) ∧ (x.l.length : Int) ≤ 5) (r : List Int) : mBs ⟨bsL x ++ r, false⟩ = (x, ⟨r, false⟩) := by
  obtain ⟨l⟩ := x
  unfold mBs bsL
  dsimp only [Bs.l] at h ⊢
  rw [List.append_assoc, mNum_app h]
  dsimp only
  rw [Int.toNat_natCast, mBits_app]
theorem mMa_app {m : Ma} (h : (0 ≤ m.pc ∧ m.pc ≤ 6000) ∧ (0 ≤ (m.slots.length : Int) ∧ (m.slots.length : Int) ≤ 1000) ∧ ∀ s ∈ m.slots, 0 ≤ s ∧ s ≤ 1000) (r : List Int) : mMa ⟨maL m ++ r, false⟩ = (m, ⟨r, false⟩) := by
  obtain ⟨pc, l⟩ := m
  obtain ⟨h1, h2, h3⟩ := h
  dsimp only [Ma.pc, Ma.slots] at h1 h2 h3
  unfold mMa mMa1 maL
  dsimp only [Ma.pc, Ma.slots]
  rw [List.append_assoc, mNum_app h1]
  dsimp only
  rw [List.append_assoc, mNum_app h2]
  dsimp only
  rw [Int.toNat_natCast, rep_app (enc := twoL) (encs := slotsL) rfl (fun _ _ => rfl) l (fun x hx r => mNum_app (h3 x hx) r) r]
theorem mCd_app {c : Cd} (h : c.Bd) (r : List Int) : mCd ⟨cdL c ++ r, false⟩ = (c, ⟨r, false⟩) := by
  obtain ⟨f, p, is, ms⟩ := c
  obtain ⟨h1, h2, h3, h4, h5, h6⟩ := h
  dsimp only [Cd.frame, Cd.params, Cd.ins, Cd.maps] at h1 h2 h3 h4 h5 h6
  have e1 : mC1 ⟨cdL (.mk f p is ms) ++ r, false⟩ = (f, ⟨twoL p ++ (twoL is.length ++ (twoL ms.length ++ (insL is ++ (masL ms ++ r)))), false⟩) := by
    unfold mC1 cdL
    dsimp only [Cd.frame, Cd.params, Cd.ins, Cd.maps]
    rw [List.append_assoc, mNum_app h1]
    simp only [List.append_assoc]
  have e2 : mC2 ⟨cdL (.mk f p is ms) ++ r, false⟩ = (p, ⟨twoL is.length ++ (twoL ms.length ++ (insL is ++ (masL ms ++ r))), false⟩) := by unfold mC2; rw [e1]; exact mNum_app h2 _
  have e3 : mC3 ⟨cdL (.mk f p is ms) ++ r, false⟩ = ((is.length : Int), ⟨twoL ms.length ++ (insL is ++ (masL ms ++ r)), false⟩) := by unfold mC3; rw [e2]; exact mNum_app h3 _
  have e4 : mC4 ⟨cdL (.mk f p is ms) ++ r, false⟩ = ((ms.length : Int), ⟨insL is ++ (masL ms ++ r), false⟩) := by unfold mC4; rw [e3]; exact mNum_app h4 _
  have e5 : mCi ⟨cdL (.mk f p is ms) ++ r, false⟩ = (is, ⟨masL ms ++ r, false⟩) := by
    unfold mCi
    rw [e3, e4]
    dsimp only
    rw [Int.toNat_natCast]
    exact rep_app (enc := isL) (encs := insL) rfl (fun _ _ => rfl) is (fun x hx r => mOne_app (h5 x hx) r) _
  have e6 : mCm ⟨cdL (.mk f p is ms) ++ r, false⟩ = (ms, ⟨r, false⟩) := by
    unfold mCm
    rw [e4, e5]
    dsimp only
    rw [Int.toNat_natCast]
    exact rep_app (enc := maL) (encs := masL) rfl (fun _ _ => rfl) ms (fun x hx r => mMa_app (h6 x hx) r) _
  unfold mCd
  rw [e1, e2, e5, e6]
theorem mIm_app {x : Im} (h : imB0 x = true) (hok : ∀ c ∈ x.codes, ∀ y ∈ c.ins, y.Ok) (r : List Int) : mIm ⟨(imL x ++ r).drop 2, false⟩ = (x, ⟨r, false⟩) := by
  unfold imB0 plB at h
  simp only [Bool.and_eq_true, decide_eq_true_eq, List.all_eq_true] at h
  obtain ⟨h1, h2, h3, _, h5, h6⟩ := h
  obtain ⟨ss, cs, mn⟩ := x
  dsimp only [Im.structs, Im.codes, Im.main] at h1 h2 h3 h5 h6 hok
  have e0 : (imL (.mk ss cs mn) ++ r).drop 2 = twoL ss.length ++ (twoL cs.length ++ (twoL mn ++ (bssL ss ++ (cdsL cs ++ r)))) := by
    unfold imL
    dsimp only [Im.structs, Im.codes, Im.main]
    rw [List.append_assoc]
    show ([71, 73] ++ _).drop 2 = _
    simp only [List.append_assoc]
    rfl
  rw [e0]
  have e1 : mI1 ⟨twoL ss.length ++ (twoL cs.length ++ (twoL mn ++ (bssL ss ++ (cdsL cs ++ r)))), false⟩ = ((ss.length : Int), ⟨twoL cs.length ++ (twoL mn ++ (bssL ss ++ (cdsL cs ++ r))), false⟩) := mNum_app (by omega) _
  have e2 : mI2 ⟨twoL ss.length ++ (twoL cs.length ++ (twoL mn ++ (bssL ss ++ (cdsL cs ++ r)))), false⟩ = ((cs.length : Int), ⟨twoL mn ++ (bssL ss ++ (cdsL cs ++ r)), false⟩) := by unfold mI2; rw [e1]; exact mNum_app (by omega) _
  have e3 : mI3 ⟨twoL ss.length ++ (twoL cs.length ++ (twoL mn ++ (bssL ss ++ (cdsL cs ++ r)))), false⟩ = (mn, ⟨bssL ss ++ (cdsL cs ++ r), false⟩) := by unfold mI3; rw [e2]; exact mNum_app (by omega) _
  have e4 : mIs ⟨twoL ss.length ++ (twoL cs.length ++ (twoL mn ++ (bssL ss ++ (cdsL cs ++ r)))), false⟩ = (ss, ⟨cdsL cs ++ r, false⟩) := by
    unfold mIs
    rw [e1, e3]
    dsimp only
    rw [Int.toNat_natCast]
    exact rep_app (enc := bsL) (encs := bssL) rfl (fun _ _ => rfl) ss (fun x hx r => mBs_app (by have := h5 x hx; omega) r) _
  have e5 : mIc ⟨twoL ss.length ++ (twoL cs.length ++ (twoL mn ++ (bssL ss ++ (cdsL cs ++ r)))), false⟩ = (cs, ⟨r, false⟩) := by
    unfold mIc
    rw [e2, e4]
    dsimp only
    rw [Int.toNat_natCast]
    exact rep_app (enc := cdL) (encs := cdsL) rfl (fun _ _ => rfl) cs (fun x hx r => mCd_app (cdB_bd (h6 x hx) (hok x hx)) r) _
  unfold mIm
  rw [e3, e4, e5]
theorem mNum_fin (most : Int) (s : RS) (h : s.fin = true) : (mNum most s).2.fin = true := by unfold mNum; rw [if_pos h]; rfl
/-- Whatever number is read was written so. -/
theorem mNum_snd {most : Int} {s : RS} (hb : s.By) (h : (mNum most s).2.fin = false) : s.fin = false ∧ s.rest = twoL (mNum most s).1 ++ (mNum most s).2.rest ∧ 0 ≤ (mNum most s).1 ∧ (mNum most s).1 ≤ most := by
  obtain ⟨l, f⟩ := s
  cases f with
  | true => rw [mNum_fin _ _ rfl] at h; cases h
  | false =>
    match l, h, hb with
    | [], h, _ => cases h
    | [_], h, _ => cases h
    | a :: b :: r, h, hb =>
      have ha : 0 ≤ a ∧ a ≤ 255 := hb a (List.mem_cons_self ..)
      have hbb : 0 ≤ b ∧ b ≤ 255 := hb b (List.mem_cons_of_mem _ (List.mem_cons_self ..))
      have e : mNum most ⟨a :: b :: r, false⟩ = if a + 256 * b ≤ most then (a + 256 * b, ⟨r, false⟩) else (0, badS) := rfl
      rw [e] at h ⊢
      by_cases q : a + 256 * b ≤ most
      · rw [if_pos q]
        refine ⟨rfl, ?_, by dsimp only; omega, q⟩
        dsimp only
        unfold twoL
        rw [show (a + 256 * b) % 256 = a by omega, show (a + 256 * b) / 256 = b by omega]
        rfl
      · rw [if_neg q] at h
        cases h
theorem mNum_by {most : Int} {s : RS} (hb : s.By) : (mNum most s).2.By := by
  obtain ⟨l, f⟩ := s
  cases f with
  | true => exact fun z hz => by cases hz
  | false =>
    match l, hb with
    | [], _ => exact fun z hz => by cases hz
    | [_], _ => exact fun z hz => by cases hz
    | a :: b :: r, hb =>
      show (if a + 256 * b ≤ most then (a + 256 * b, (⟨r, false⟩ : RS)) else (0, badS)).2.By
      split
      · exact fun z hz => hb z (List.mem_cons_of_mem _ (List.mem_cons_of_mem _ hz))
      · exact fun z hz => by cases hz
theorem mNum_nn {most : Int} {s : RS} (hb : s.By) (hm : 0 ≤ most) : 0 ≤ (mNum most s).1 ∧ (mNum most s).1 ≤ most := by
  cases h : (mNum most s).2.fin with
  | false => exact (mNum_snd hb h).2.2
  | true =>
    obtain ⟨l, f⟩ := s
    cases f with
    | true => exact ⟨by show (0 : Int) ≤ 0; omega, hm⟩
    | false =>
      match l, h with
      | [], _ => exact ⟨by show (0 : Int) ≤ 0; omega, hm⟩
      | [_], _ => exact ⟨by show (0 : Int) ≤ 0; omega, hm⟩
      | a :: b :: r, h =>
        have e : mNum most ⟨a :: b :: r, false⟩ = if a + 256 * b ≤ most then (a + 256 * b, ⟨r, false⟩) else (0, badS) := rfl
        rw [e] at h ⊢
        by_cases q : a + 256 * b ≤ most
        · rw [if_pos q] at h; cases h
        · rw [if_neg q]; exact ⟨by show (0 : Int) ≤ 0; omega, hm⟩
/-- A piece of the model's reader: bytes stay bytes, what was read was written so, the end stays. -/
structure Mp {X : Type} (one : RS → X × RS) (enc : X → List Int) : Prop where
  by8 : ∀ s, s.By → (one s).2.By
  fin : ∀ s, s.fin = true → (one s).2.fin = true
  snd : ∀ s, s.By → (one s).2.fin = false → s.rest = enc (one s).1 ++ (one s).2.rest
theorem Mp.num (most : Int) : Mp (mNum most) twoL := ⟨fun _ h => mNum_by h, mNum_fin most, fun _ hb h => (mNum_snd hb h).2.1⟩
theorem Mp.rep {X : Type} {one : RS → X × RS} {enc : X → List Int} {encs : List X → List Int} (e0 : encs [] = []) (e1 : ∀ x l, encs (x :: l) = enc x ++ encs l) (h : Mp one enc) :
    ∀ (n : Nat) (s : RS), s.By → (Go.Proofs.Ytlfkjjnhlkaipaa.rep one n s).2.By ∧ (s.fin = true → (Go.Proofs.Ytlfkjjnhlkaipaa.rep one n s).2.fin = true) ∧ ((Go.Proofs.Ytlfkjjnhlkaipaa.rep one n s).2.fin = false → (Go.Proofs.Ytlfkjjnhlkaipaa.rep one n s).1.length = n ∧ s.rest = encs (Go.Proofs.Ytlfkjjnhlkaipaa.rep one n s).1 ++ (Go.Proofs.Ytlfkjjnhlkaipaa.rep one n s).2.rest)
  | 0, s, hb => ⟨hb, fun q => q, fun _ => ⟨rfl, by rw [Go.Proofs.Ytlfkjjnhlkaipaa.rep, e0]; rfl⟩⟩
  | n + 1, s, hb => by
    rw [Go.Proofs.Ytlfkjjnhlkaipaa.rep]
    cases hf : s.fin with
    | true => rw [if_pos rfl]; exact ⟨hb, fun _ => hf, fun q => by dsimp only at q; rw [hf] at q; cases q⟩
    | false =>
      rw [if_neg (by simp)]
      obtain ⟨i1, i2, i3⟩ := Mp.rep e0 e1 h n (one s).2 (h.by8 s hb)
      refine ⟨i1, fun q => (by cases q), fun q => ?_⟩
      have hg : (one s).2.fin = false := by
        cases k : (one s).2.fin with
        | false => rfl
        | true => have := i2 k; dsimp only at q; rw [this] at q; cases q
      obtain ⟨j1, j2⟩ := i3 q
      refine ⟨by dsimp only; rw [List.length_cons, j1], ?_⟩
      dsimp only
      rw [e1, List.append_assoc, ← j2]
      exact h.snd s hb hg
theorem mOne_mp : Mp mOne isL := by
  refine ⟨fun s hb => ?_, fun s hf => ?_, fun s hb h => ?_⟩
  · unfold mOne
    split
    · exact fun z hz => by cases hz
    · exact fun z hz => hb z (List.mem_of_mem_drop hz)
  · unfold mOne
    rw [if_pos (Or.inl hf)]
    rfl
  · unfold mOne at h ⊢
    split at h
    · cases h
    · rename_i q
      rw [if_neg q]
      dsimp only
      have hl : ¬ s.rest.length < 12 := fun k => q (Or.inr k)
      match hr : s.rest, hl with
      | a :: b :: c :: d :: e0 :: e1 :: e2 :: e3 :: e4 :: e5 :: e6 :: e7 :: r, _ =>
        have hz := fun z (hz : z ∈ a :: b :: c :: d :: e0 :: e1 :: e2 :: e3 :: e4 :: e5 :: e6 :: e7 :: r) => hb z (by rw [hr]; exact hz)
        have x0 := hz e0 (by simp)
        have x1 := hz e1 (by simp)
        have x2 := hz e2 (by simp)
        have x3 := hz e3 (by simp)
        have x4 := hz e4 (by simp)
        have x5 := hz e5 (by simp)
        have x6 := hz e6 (by simp)
        have x7 := hz e7 (by simp)
        have e8 : eightL (wr64 (lowN [e0, e1, e2, e3, e4, e5, e6, e7])) 8 = [e0, e1, e2, e3, e4, e5, e6, e7] := by
          have hL : wr64 (lowN [e0, e1, e2, e3, e4, e5, e6, e7]) % 18446744073709551616 = lowN [e0, e1, e2, e3, e4, e5, e6, e7] := by
            have hr8 : 0 ≤ lowN [e0, e1, e2, e3, e4, e5, e6, e7] ∧ lowN [e0, e1, e2, e3, e4, e5, e6, e7] < 18446744073709551616 := by simp only [lowN]; omega
            generalize lowN [e0, e1, e2, e3, e4, e5, e6, e7] = L at *
            unfold wr64
            split <;> omega
          simp only [eightL, hL]
          simp only [lowN, Nat.reduceMul, Int.reducePow, List.nil_append, List.cons_append]
          simp only [List.cons.injEq, and_true]
          refine ⟨?_, ?_, ?_, ?_, ?_, ?_, ?_, ?_⟩ <;> omega
        show _ = ([a, b, c, d] ++ eightL (wr64 (lowN [e0, e1, e2, e3, e4, e5, e6, e7])) 8) ++ r
        rw [e8]
        rfl
      | [], hl => exact absurd (by simp) hl
      | [_], hl => exact absurd (by simp) hl
      | [_, _], hl => exact absurd (by simp) hl
      | [_, _, _], hl => exact absurd (by simp) hl
      | [_, _, _, _], hl => exact absurd (by simp) hl
      | [_, _, _, _, _], hl => exact absurd (by simp) hl
      | [_, _, _, _, _, _], hl => exact absurd (by simp) hl
      | [_, _, _, _, _, _, _], hl => exact absurd (by simp) hl
      | [_, _, _, _, _, _, _, _], hl => exact absurd (by simp) hl
      | [_, _, _, _, _, _, _, _, _], hl => exact absurd (by simp) hl
      | [_, _, _, _, _, _, _, _, _, _], hl => exact absurd (by simp) hl
      | [_, _, _, _, _, _, _, _, _, _, _], hl => exact absurd (by simp) hl
theorem mBits_mp : ∀ (n : Nat) (s : RS), s.By → (mBits n s).2.By ∧ (s.fin = true → (mBits n s).2.fin = true) ∧ ((mBits n s).2.fin = false → (mBits n s).1.length = n ∧ s.rest = (mBits n s).1.map bitL ++ (mBits n s).2.rest)
  | 0, s, hb => ⟨hb, fun q => q, fun _ => ⟨rfl, rfl⟩⟩
  | n + 1, ⟨l, true⟩, hb => ⟨hb, fun _ => rfl, fun q => by cases q⟩
  | n + 1, ⟨[], false⟩, hb => ⟨fun z hz => (by cases hz), fun q => (by cases q), fun q => (by cases q)⟩
  | n + 1, ⟨a :: r, false⟩, hb => by
    have ha : 0 ≤ a ∧ a ≤ 255 := hb a (List.mem_cons_self ..)
    obtain ⟨i1, _, i3⟩ := mBits_mp n ⟨r, false⟩ (fun z hz => hb z (List.mem_cons_of_mem _ hz))
    have e : mBits (n + 1) ⟨a :: r, false⟩ = if a ≤ 1 then ((a == 1) :: (mBits n ⟨r, false⟩).1, (mBits n ⟨r, false⟩).2) else ([], badS) := rfl
    rw [e]
    by_cases q : a ≤ 1
    · rw [if_pos q]
      refine ⟨i1, fun q => (by cases q), fun q => ?_⟩
      obtain ⟨j1, j2⟩ := i3 q
      refine ⟨by dsimp only; rw [List.length_cons, j1], ?_⟩
      dsimp only at j2 ⊢
      rw [List.map_cons, List.cons_append, ← j2]
      rcases (show a = 0 ∨ a = 1 by omega) with rfl | rfl <;> rfl
    · rw [if_neg q]
      exact ⟨fun z hz => (by cases hz), fun q => (by cases q), fun q => (by cases q)⟩
theorem not_fin {X : Type} {one : RS → X × RS} (h : ∀ s, s.fin = true → (one s).2.fin = true) {s : RS} (k : (one s).2.fin = false) : s.fin = false := by
  cases q : s.fin with
  | false => rfl
  | true => rw [h s q] at k; cases k
theorem mBs_mp : Mp mBs bsL := by
  refine ⟨fun s hb => (mBits_mp _ _ (mNum_by hb)).1, fun s hf => (mBits_mp _ _ (by unfold mNum; rw [if_pos hf]; exact fun z hz => by cases hz)).2.1 (mNum_fin _ _ hf), fun s hb h => ?_⟩
  obtain ⟨_, i2, i3⟩ := mBits_mp (mNum 5 s).1.toNat (mNum 5 s).2 (mNum_by hb)
  obtain ⟨j1, j2⟩ := i3 h
  have hf : (mNum 5 s).2.fin = false := by
    cases q : (mNum 5 s).2.fin with
    | false => rfl
    | true => have := i2 q; exact absurd (this.symm.trans h) (by simp)
  have hn := mNum_snd hb hf
  show s.rest = (twoL ((mBits (mNum 5 s).1.toNat (mNum 5 s).2).1.length : Nat) ++ (mBits (mNum 5 s).1.toNat (mNum 5 s).2).1.map bitL) ++ (mBits (mNum 5 s).1.toNat (mNum 5 s).2).2.rest
  rw [j1, Int.toNat_of_nonneg hn.2.2.1, List.append_assoc, ← j2]
  exact hn.2.1
theorem mMa_mp : Mp mMa maL := by
  have b1 := fun (s : RS) (hb : s.By) => mNum_by (most := 1000) (mNum_by (most := 6000) hb)
  refine ⟨fun s hb => (Mp.rep (encs := slotsL) rfl (fun _ _ => rfl) (Mp.num 1000) _ _ (b1 s hb)).1, fun s hf => ?_, fun s hb h => ?_⟩
  · have hq : (mMa1 s).2.fin = true := mNum_fin _ _ (mNum_fin _ _ hf)
    show (rep (mNum 1000) (mMa1 s).1.toNat (mMa1 s).2).2.fin = true
    rw [rep_fin _ _ hq]
    exact hq
  · obtain ⟨_, i2, i3⟩ := Mp.rep (encs := slotsL) rfl (fun _ _ => rfl) (Mp.num 1000) (mMa1 s).1.toNat (mMa1 s).2 (b1 s hb)
    obtain ⟨j1, j2⟩ := i3 h
    have hf : (mMa1 s).2.fin = false := by
      cases q : (mMa1 s).2.fin with
      | false => rfl
      | true => have := i2 q; exact absurd (this.symm.trans h) (by simp)
    have hn2 := mNum_snd (mNum_by hb) hf
    have hn1 := mNum_snd hb hn2.1
    show s.rest = (twoL (mNum 6000 s).1 ++ (twoL ((rep (mNum 1000) (mMa1 s).1.toNat (mMa1 s).2).1.length : Nat) ++ slotsL (rep (mNum 1000) (mMa1 s).1.toNat (mMa1 s).2).1)) ++ (rep (mNum 1000) (mMa1 s).1.toNat (mMa1 s).2).2.rest
    have hg : 0 ≤ (mMa1 s).1 := hn2.2.2.1
    rw [j1, Int.toNat_of_nonneg hg, List.append_assoc, List.append_assoc, ← j2]
    have e2 : (mNum 6000 s).2.rest = twoL (mMa1 s).1 ++ (mMa1 s).2.rest := hn2.2.1
    rw [← e2]
    exact hn1.2.1
theorem mCd_mp : Mp mCd cdL := by
  have b4 : ∀ s : RS, s.By → (mC4 s).2.By := fun s hb => mNum_by (mNum_by (mNum_by (mNum_by hb)))
  have bi : ∀ s : RS, s.By → (mCi s).2.By := fun s hb => (Mp.rep (encs := insL) rfl (fun _ _ => rfl) mOne_mp _ _ (b4 s hb)).1
  refine ⟨fun s hb => (Mp.rep (encs := masL) rfl (fun _ _ => rfl) mMa_mp _ _ (bi s hb)).1, fun s hf => ?_, fun s hb h => ?_⟩
  · have hq : (mC4 s).2.fin = true := mNum_fin _ _ (mNum_fin _ _ (mNum_fin _ _ (mNum_fin _ _ hf)))
    have hi : mCi s = ([], (mC4 s).2) := rep_fin _ _ hq
    have hm : mCm s = ([], (mC4 s).2) := by unfold mCm; rw [hi]; exact rep_fin _ _ hq
    show (mCm s).2.fin = true
    rw [hm]
    exact hq
  · have h' : (mCm s).2.fin = false := h
    obtain ⟨_, i2, i3⟩ := Mp.rep (encs := masL) rfl (fun _ _ => rfl) mMa_mp (mC4 s).1.toNat (mCi s).2 (bi s hb)
    obtain ⟨j1, j2⟩ := i3 h'
    have hfi : (mCi s).2.fin = false := by
      cases q : (mCi s).2.fin with
      | false => rfl
      | true => have := i2 q; exact absurd (this.symm.trans h') (by simp)
    obtain ⟨_, k2, k3⟩ := Mp.rep (encs := insL) rfl (fun _ _ => rfl) mOne_mp (mC3 s).1.toNat (mC4 s).2 (b4 s hb)
    obtain ⟨l1, l2⟩ := k3 hfi
    have hf4 : (mC4 s).2.fin = false := by
      cases q : (mC4 s).2.fin with
      | false => rfl
      | true => have := k2 q; exact absurd (this.symm.trans hfi) (by simp)
    have n4 := mNum_snd (mNum_by (mNum_by (mNum_by hb))) hf4
    have n3 := mNum_snd (mNum_by (mNum_by hb)) n4.1
    have n2 := mNum_snd (mNum_by hb) n3.1
    have n1 := mNum_snd hb n2.1
    have q1 : (mCi s).1.length = (mC3 s).1.toNat := l1
    have q2 : (mCm s).1.length = (mC4 s).1.toNat := j1
    have q3 : (mC4 s).2.rest = insL (mCi s).1 ++ (mCi s).2.rest := l2
    have q4 : (mCi s).2.rest = masL (mCm s).1 ++ (mCm s).2.rest := j2
    have g3 : 0 ≤ (mC3 s).1 := n3.2.2.1
    have g4 : 0 ≤ (mC4 s).1 := n4.2.2.1
    show s.rest = (twoL (mC1 s).1 ++ (twoL (mC2 s).1 ++ (twoL ((mCi s).1.length : Nat) ++ (twoL ((mCm s).1.length : Nat) ++ (insL (mCi s).1 ++ masL (mCm s).1))))) ++ (mCm s).2.rest
    rw [q1, q2, Int.toNat_of_nonneg g3, Int.toNat_of_nonneg g4]
    simp only [List.append_assoc]
    rw [← q4, ← q3]
    have p4 : (mC3 s).2.rest = twoL (mC4 s).1 ++ (mC4 s).2.rest := n4.2.1
    have p3 : (mC2 s).2.rest = twoL (mC3 s).1 ++ (mC3 s).2.rest := n3.2.1
    have p2 : (mC1 s).2.rest = twoL (mC2 s).1 ++ (mC2 s).2.rest := n2.2.1
    rw [← p4, ← p3, ← p2]
    exact n1.2.1
/-- Whatever image the model reads, its bytes are those. -/
theorem mIm_snd {s : RS} (hb : s.By) (h : (mIm s).2.fin = false) : [71, 73] ++ s.rest = imL (mIm s).1 ++ (mIm s).2.rest := by
  have b3 : (mI3 s).2.By := mNum_by (mNum_by (mNum_by hb))
  have bs := (Mp.rep (encs := bssL) rfl (fun _ _ => rfl) mBs_mp (mI1 s).1.toNat (mI3 s).2 b3)
  have bc := (Mp.rep (encs := cdsL) rfl (fun _ _ => rfl) mCd_mp (mI2 s).1.toNat (mIs s).2 bs.1)
  have h' : (mIc s).2.fin = false := h
  obtain ⟨_, i2, i3⟩ := bc
  obtain ⟨j1, j2⟩ := i3 h'
  have hfi : (mIs s).2.fin = false := by
    cases q : (mIs s).2.fin with
    | false => rfl
    | true => have := i2 q; exact absurd (this.symm.trans h') (by simp)
  obtain ⟨_, k2, k3⟩ := bs
  obtain ⟨l1, l2⟩ := k3 hfi
  have hf3 : (mI3 s).2.fin = false := by
    cases q : (mI3 s).2.fin with
    | false => rfl
    | true => have := k2 q; exact absurd (this.symm.trans hfi) (by simp)
  have n3 := mNum_snd (mNum_by (mNum_by hb)) hf3
  have n2 := mNum_snd (mNum_by hb) n3.1
  have n1 := mNum_snd hb n2.1
  have q1 : (mIs s).1.length = (mI1 s).1.toNat := l1
  have q2 : (mIc s).1.length = (mI2 s).1.toNat := j1
  have q3 : (mI3 s).2.rest = bssL (mIs s).1 ++ (mIs s).2.rest := l2
  have q4 : (mIs s).2.rest = cdsL (mIc s).1 ++ (mIc s).2.rest := j2
  have g1 : 0 ≤ (mI1 s).1 := n1.2.2.1
  have g2 : 0 ≤ (mI2 s).1 := n2.2.2.1
  show [71, 73] ++ s.rest = ([71, 73] ++ (twoL ((mIs s).1.length : Nat) ++ (twoL ((mIc s).1.length : Nat) ++ (twoL (mI3 s).1 ++ (bssL (mIs s).1 ++ cdsL (mIc s).1))))) ++ (mIc s).2.rest
  rw [q1, q2, Int.toNat_of_nonneg g1, Int.toNat_of_nonneg g2]
  simp only [List.append_assoc]
  rw [← q4, ← q3]
  have p3 : (mI2 s).2.rest = twoL (mI3 s).1 ++ (mI3 s).2.rest := n3.2.1
  have p2 : (mI1 s).2.rest = twoL (mI2 s).1 ++ (mI2 s).2.rest := n2.2.1
  rw [← p3, ← p2]
  rw [show s.rest = twoL (mI1 s).1 ++ (mI1 s).2.rest from n1.2.1]
theorem mOne_ok {s : RS} (hb : s.By) : (mOne s).1.Ok ∧ (mOne s).2.By := by
  refine ⟨?_, mOne_mp.by8 s hb⟩
  unfold mOne
  split
  · unfold Is.Ok; dsimp only; omega
  · have hr := lowN_rg ((s.rest.drop 4).take 8) (fun z hz => hb z (List.mem_of_mem_drop (List.mem_of_mem_take hz)))
    have hl : ((s.rest.drop 4).take 8).length ≤ 8 := by rw [List.length_take]; omega
    have hp := pow_le hl
    unfold Is.Ok
    dsimp only
    generalize lowN ((s.rest.drop 4).take 8) = L at *
    have h8 : L < 18446744073709551616 := Int.lt_of_lt_of_le hr.2 hp
    unfold wr64
    split <;> omega
theorem mCd_ok {s : RS} (hb : s.By) : (∀ y ∈ (mCd s).1.ins, y.Ok) ∧ (mCd s).2.By := ⟨(rep_all (P := Is.Ok) (fun _ h => mOne_ok h) _ _ (mNum_by (mNum_by (mNum_by (mNum_by hb))))).1, mCd_mp.by8 s hb⟩
theorem mIm_ok {s : RS} (hb : s.By) : ∀ c ∈ (mIm s).1.codes, ∀ y ∈ c.ins, y.Ok :=
  (rep_all (P := fun c : Cd => ∀ y ∈ c.ins, y.Ok) (fun _ h => mCd_ok h) _ _ (rep_all (P := fun _ => True) (fun s h => ⟨trivial, mBs_mp.by8 s h⟩) _ _ (mNum_by (mNum_by (mNum_by hb)))).2).1
/-- What the model answers. -/
def irM (zs : List Int) : Im × Bool := if 200000 < zs.length ∨ ¬ (zs.take 2 = [71, 73]) then (zeroIm, false) else if (mIm ⟨zs.drop 2, false⟩).2.fin = false ∧ (mIm ⟨zs.drop 2, false⟩).2.rest = [] ∧ imB (mIm ⟨zs.drop 2, false⟩).1 = true then ((mIm ⟨zs.drop 2, false⟩).1, true) else (zeroIm, false)
theorem imB0_of {x : Im} (h : imB x = true) : imB0 x = true := by unfold imB at h; rw [Bool.and_eq_true] at h; exact h.1
/-- Both readers answer alike. -/
theorem ir_same {zs : List Int} (hb : ∀ z ∈ zs, 0 ≤ z ∧ z ≤ 255) : irM zs = irR zs := by
  unfold irM irR
  by_cases hl : 200000 < zs.length
  · rw [if_pos (Or.inl hl), if_pos hl]
  · rw [if_neg hl]
    have hbd : (⟨zs.drop 2, false⟩ : RS).By := fun z hz => hb z (List.mem_of_mem_drop hz)
    by_cases hq : imB (rdIm ⟨zs, false⟩).1 = true ∧ imL (rdIm ⟨zs, false⟩).1 = zs
    · obtain ⟨h1, h2⟩ := hq
      rw [h1, decide_eq_true h2]
      generalize hm : (rdIm ⟨zs, false⟩).1 = m at *
      have hok : ∀ c ∈ m.codes, ∀ y ∈ c.ins, y.Ok := by rw [← hm]; exact rdIm_ok (s := ⟨zs, false⟩) hb
      have e := mIm_app (imB0_of h1) hok []
      rw [List.append_nil, h2] at e
      have ht : zs.take 2 = [71, 73] := by rw [← h2]; rfl
      rw [if_neg (by rw [ht]; simp; omega), e, if_pos ⟨rfl, rfl, h1⟩]
      rfl
    · have hz : (imB (rdIm ⟨zs, false⟩).1 && decide (imL (rdIm ⟨zs, false⟩).1 = zs)) = false := by
        cases q : (imB (rdIm ⟨zs, false⟩).1 && decide (imL (rdIm ⟨zs, false⟩).1 = zs)) with
        | false => rfl
        | true => rw [Bool.and_eq_true, decide_eq_true_eq] at q; exact absurd q hq
      rw [hz]
      by_cases ht : zs.take 2 = [71, 73]
      · rw [if_neg (by rw [ht]; simp; omega)]
        refine if_neg (fun q => hq ?_)
        obtain ⟨q1, q2, q3⟩ := q
        have e := mIm_snd hbd q1
        rw [q2, List.append_nil] at e
        have e2 : imL (mIm ⟨zs.drop 2, false⟩).1 = zs := by
          rw [← e]
          show [71, 73] ++ zs.drop 2 = zs
          rw [← ht, List.take_append_drop]
        have hrg := imB_rg (imB0_of q3) (mIm_ok hbd)
        have e3 := im_app hrg []
        rw [List.append_nil, e2] at e3
        rw [e3]
        exact ⟨q3, e2⟩
      · rw [if_pos (Or.inr ht)]
        rfl
end Go.Proofs.Ytlfkjjnhlkaipaa
