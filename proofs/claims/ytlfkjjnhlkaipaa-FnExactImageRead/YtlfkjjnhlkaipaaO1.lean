/- Trees that came in, read. -/
import Derived.Test.YtlfkjjnhlkaipaaG8
import Derived.ProofKit
import Derived.OpenShut
import Derived.ShutString
import Derived.ChangeOld
import Derived.Below
namespace Go.Proofs.Ytlfkjjnhlkaipaa
open Go.ChangeShapes Go.WideShapes Go.ChangeAt Go.RowKit

theorem lt_of_cell {w : World} {a : Addr} {v : Value} (h : w.cell? a = some v) : a.block < w.heap.size := by
  rcases Nat.lt_or_ge a.block w.heap.size with l | l
  · exact l
  · have : w.heap[a.block]? = none := Array.getElem?_eq_none l
    unfold World.cell? at h
    rw [this] at h
    cases h
theorem rdb_of {w : World} {x : Addr} {len cap : Nat} {zs : List Int} (hl : len ≤ zs.length) (hm : zs.length ≤ maxLen)
    (hcell : ∀ i, i < zs.length → w.cell? (x.add i) = some (.int .u8 (zs.getD i 0))) (hw : ∀ n ∈ zs, (Lit.int .u8 n).wf = true) : RdB w (.slice (some x) len cap) (zs.take len) := by
  unfold maxLen at hm
  have hlen : (zs.take len).length = len := by simp; omega
  have h3 : ∀ n ∈ zs, isB n := fun n hn => by
    have h2 := hw n hn
    simp only [Lit.wf, IntKind.min, IntKind.max, IntKind.signed, IntKind.bits, Bool.and_eq_true] at h2
    unfold isB
    simpa using h2
  refine ⟨some x, cap, by rw [hlen], by rw [hlen]; omega, fun j => ?_, fun j hj => ?_⟩
  · rw [List.getD_eq_getElem?_getD]
    rcases Nat.lt_or_ge j (zs.take len).length with h | h
    · rw [List.getElem?_eq_getElem h]
      exact h3 _ (List.mem_of_mem_take (List.getElem_mem _))
    · rw [List.getElem?_eq_none h]; exact ⟨by simp, by simp⟩
  · rw [hlen] at hj
    obtain ⟨b, off, rfl, hc⟩ := ints_at hcell (by omega)
    have h1 := hc j (by omega)
    refine ⟨b, off, rfl, lt_of_cell h1, ?_⟩
    rw [h1, List.getD_eq_getElem?_getD, List.getD_eq_getElem?_getD, List.getElem?_take_of_lt hj]

section
variable {H : Type} {enc : TypeId × Value → H} {W : World}

theorem pick_list {X : Type} {Q : Nat → X → Prop} : ∀ n, (∀ i, i < n → ∃ x, Q i x) → ∃ l : List X, l.length = n ∧ ∀ i (h : i < l.length), Q i l[i]
  | 0, _ => ⟨[], rfl, fun i h => absurd h (Nat.not_lt_zero _)⟩
  | n + 1, h => by
    obtain ⟨l, hl, hq⟩ := pick_list n (fun i hi => h i (by omega))
    obtain ⟨x, hx⟩ := h n (Nat.lt_succ_self n)
    refine ⟨l ++ [x], by rw [List.length_append, hl]; rfl, fun i hi => ?_⟩
    rcases Nat.lt_or_ge i l.length with a | a
    · rw [List.getElem_append_left a]; exact hq i a
    · have : i = l.length := by rw [List.length_append] at hi; simp at hi; omega
      subst this
      rw [List.getElem_append_right (Nat.le_refl _)]
      simp only [Nat.sub_self, List.getElem_cons_zero]
      rw [hl]; exact hx
theorem cells_get {a : Addr} {k : Nat} {cs : List Value} (h : W.cells? 0 a k = some cs) : cs.length = k ∧ ∀ m u, cs[m]? = some u → W.cell? (a.add m) = some u := by
  unfold World.cells? at h
  rw [if_pos (Nat.zero_le _)] at h
  have hl : cs.length = k := by simpa using mapM_some_length h
  refine ⟨hl, fun m u hu => ?_⟩
  have hm : m < k := by
    rw [← hl]
    rcases Nat.lt_or_ge m cs.length with a | a
    · exact a
    · rw [List.getElem?_eq_none a] at hu; cases hu
  have := mapM_some_get h m m (by simp [hm])
  rw [this]; exact hu
theorem open_list {T S : TypeId} (hu : Try.prog.underlying S = some (.slice T)) {k : Nat} (hk : Try.prog.cellsOf T = k) (hk0 : 0 < k) {X : Type} (dat : X → Dat) (Good : X → Prop) {fuel : Nat} {cs : List Value} {y : DataW H × List MemPlace} (h : DataW.trod enc Try.prog W 0 (fun _ => true) true fuel S cs = some y)
    (hX : ∀ n cs y, n < fuel → cs.length = k → DataW.trod enc Try.prog W 0 (fun _ => true) true n T cs = some y → ∃ x, Good x ∧ RdD W (dat x) cs) :
    ∃ (l : List X) (v : Value), cs = [v] ∧ (∀ i (h : i < l.length), Good l[i]) ∧ RdL W k v (l.map dat) := by
  rcases DataW.trod_slice hu h with ⟨rfl, _⟩ | ⟨a, len, cap, elems, rest, n, rfl, rfl, _, _, hl, hm, hlen, hel, _, _⟩
  · exact ⟨[], _, rfl, fun i h => absurd h (Nat.not_lt_zero _), none, 0, rfl, ⟨Nat.le_refl _, by unfold maxLen; omega⟩, fun j hj => absurd hj (Nat.not_lt_zero _)⟩
  · rw [hk] at hel
    have hex : ∀ i, i < len → ∃ x, Good x ∧ ∃ c, W.cells? 0 (a.add (i * k)) k = some c ∧ RdD W (dat x) c := fun i hi => by
      have h1 := hel i hi
      rw [List.getElem?_eq_getElem (by omega)] at h1
      obtain ⟨c, hc, hd⟩ := Option.bind_eq_some_iff.1 h1
      obtain ⟨x, hg, hr⟩ := hX n c _ (Nat.lt_succ_self _) (cells_get hc).1 hd
      exact ⟨x, hg, c, hc, hr⟩
    obtain ⟨l, hll, hq⟩ := pick_list len hex
    refine ⟨l, _, rfl, fun i hi => (hq i hi).1, some a, cap, by rw [List.length_map, hll], by rw [List.length_map, hll]; exact ⟨hl, hm⟩, fun j hj => ?_⟩
    rw [List.length_map] at hj
    obtain ⟨_, c0, hc0, _⟩ := hq 0 (by omega)
    obtain ⟨hl0, hg0⟩ := cells_get hc0
    have hfirst := hg0 0 c0[0] (List.getElem?_eq_getElem (by omega))
    have hsp : a.spot = none := by
      have := World.cell?_spot hfirst
      rw [Nat.zero_mul] at this
      simpa [Addr.add] using this
    obtain ⟨b, off, sp⟩ := a
    simp only at hsp
    subst hsp
    obtain ⟨_, c, hc, hr⟩ := hq j hj
    obtain ⟨hlc, hgc⟩ := cells_get hc
    rw [add_plain] at hgc hfirst
    rw [add_plain] at hfirst
    refine ⟨b, off, c, rfl, lt_of_cell hfirst, hlc, fun m u hu => ?_, by rw [List.getElem_map]; exact hr⟩
    have := hgc m u hu
    rwa [add_plain] at this
theorem trod_int {t : TypeId} (hu : Try.prog.underlying t = some (.int .i64)) {fuel : Nat} {c : Value} {y : DataW H × List MemPlace} (h : DataW.trod enc Try.prog W 0 (fun _ => true) true fuel t [c] = some y) : ∃ n, c = .int .i64 n ∧ InR n := by
  cases fuel with
  | zero => simp [DataW.trod] at h
  | succ m =>
    unfold DataW.trod at h
    rw [hu] at h
    split at h <;> simp_all
    rename_i h0
    obtain ⟨⟨rfl, hw⟩, _⟩ := h
    rw [← h0] at hw
    simp only [Lit.wf, IntKind.min, IntKind.max, IntKind.signed, IntKind.bits, Bool.and_eq_true] at hw
    unfold InR
    simpa using hw
theorem open_bytes {fuel : Nat} {cs : List Value} {y : DataW H × List MemPlace} (h : DataW.trod enc Try.prog W 0 (fun _ => true) true fuel 22 cs = some y) : ∃ v zs, cs = [v] ∧ RdN W v zs := by
  rcases open_ints Try.underlying22 Try.underlying5 (by kernel_rfl) h with ⟨rfl, _⟩ | ⟨x, l, c, zs, rfl, _, hl, hm, hz, _, hcell, hwz⟩
  · exact ⟨_, [], rfl, RdB.nil W, none, 0, rfl, Nat.le_refl _, by unfold maxLen; omega⟩
  · have hz' : zs.length = c := by simpa using hz
    have e : (zs.take l).length = l := by rw [List.length_take]; omega
    exact ⟨_, zs.take l, rfl, rdb_of (by omega) (by rw [hz']; exact hm) hcell hwz, some x, c, by rw [e], by rw [e]; exact hl, hm⟩

theorem openIn {fuel : Nat} {cs : List Value} {y : DataW H × List MemPlace} (hl : cs.length = 1) (h : DataW.trod enc Try.prog W 0 (fun _ => true) true fuel 3 cs = some y) : ∃ x : Int, True ∧ RdD W (.int x) cs := by
  match cs, hl with
  | [c], _ =>
    obtain ⟨z, rfl, _⟩ := trod_int Try.underlying3 h
    exact ⟨z, trivial, by rw [RdD]⟩
theorem openBo {fuel : Nat} {cs : List Value} {y : DataW H × List MemPlace} (_ : cs.length = 1) (h : DataW.trod enc Try.prog W 0 (fun _ => true) true fuel 4 cs = some y) : ∃ x : Bool, True ∧ RdD W (.bool x) cs := by
  obtain ⟨b, rfl, _⟩ := DataW.trod_bool Try.underlying4 h
  exact ⟨b, trivial, by rw [RdD]⟩
theorem In.dats_map (l : List In) : In.dats l = l.map Dat.int := rfl
theorem Bo.dats_map (l : List Bo) : Bo.dats l = l.map Dat.bool := rfl
theorem Is.dats_map (l : List Is) : Is.dats l = l.map Is.dat := rfl
theorem openBs {fuel : Nat} {cs : List Value} {y : DataW H × List MemPlace} (_ : cs.length = 1) (h : DataW.trod enc Try.prog W 0 (fun _ => true) true fuel 54 cs = some y) : ∃ x : Bs, True ∧ RdD W x.dat cs := by
  obtain ⟨l0, v0, hq0, g0, b0⟩ := open_list Try.underlying54 (show Try.prog.cellsOf 4 = 1 by kernel_rfl) (by decide) Dat.bool (fun _ => True) h (fun n cs y _ hl h => openBo hl h)
  subst hq0
  rw [← Bo.dats_map] at b0
  exact ⟨.mk l0, trivial, Bs.unview (x := .mk l0) b0⟩
theorem Bs.dats_map (l : List Bs) : Bs.dats l = l.map Bs.dat := by
  induction l with
  | nil => rw [Bs.dats, List.map_nil]
  | cons x r ih => rw [Bs.dats, ih, List.map_cons]
theorem Ma.dats_map (l : List Ma) : Ma.dats l = l.map Ma.dat := by
  induction l with
  | nil => rw [Ma.dats, List.map_nil]
  | cons x r ih => rw [Ma.dats, ih, List.map_cons]
theorem Cd.dats_map (l : List Cd) : Cd.dats l = l.map Cd.dat := by
  induction l with
  | nil => rw [Cd.dats, List.map_nil]
  | cons x r ih => rw [Cd.dats, ih, List.map_cons]
end

end Go.Proofs.Ytlfkjjnhlkaipaa
