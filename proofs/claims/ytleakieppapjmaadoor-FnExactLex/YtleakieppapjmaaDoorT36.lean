/- Expressions put behind a text, by the model: ints and floats. -/
import Derived.Test.YtleakieppapjmaaDoorT35
namespace Go.Proofs.YtleakieppapjmaaDoor
open Go.RowKit Go.Lib
theorem dec_say (n : Int) (w : World) (hn : InR n) : Calls Tryd.prog 21 #[.int .i64 n] w (SayP w w (decL n)) := by
  refine (dec_any n w hn).mono ?_
  rintro e w' ⟨v, rfl, o, l⟩
  exact ⟨v, rfl, o, l, l.k8⟩
theorem decL_len (n : Int) : 1 ≤ (decL n).length ∧ (decL n).length ≤ 21 := by
  unfold decL
  have h1 := digF_len 20 (-n).toNat
  have h2 := digF_len 20 n.toNat
  have h3 : 0 < (digF 20 n.toNat).length := digF_pos 19 n.toNat
  split
  · rw [List.length_cons]; omega
  · omega
/-- Another row of bytes stays, where one's own grows. -/
theorem Bf.keep {X w w' : World} {v2 : Value} {ys : List Int} {vb : Option Nat} (h : Bf X X w v2 ys) (g : w.grownBy w' vb) (hlt : ∀ b, vb = some b → b < X.heap.size) : w'.ownsRow X.heap.size 5 1 v2 ys.length (ys.map (Value.int .u8)) := by
  refine h.1.kept g ?_
  cases hv : v2.ownBlock with
  | none => exact .inl rfl
  | some b2 =>
    refine .inr fun e => ?_
    have h1 := (h.1.lt b2 hv).1
    have h2 := hlt b2 e.symm
    omega
theorem Later.ones {w w' : World} {g : Nat} {X : List Value} (hl : Later w w') (hg : g < w.heap.size) (h : ∀ j u, X[j]? = some u → w.cell? ((⟨g, 0, none⟩ : Addr).add j) = some u) : ∀ j u, X[j]? = some u → w'.cell? ((⟨g, 0, none⟩ : Addr).add j) = some u := fun j u hj => by
  have := h j u hj
  rw [Addr.add_lit] at this ⊢
  rw [hl.cell (p := ⟨g, 0 + j, none⟩) hg]
  exact this
theorem hexL_len2 (n : Int) : 1 ≤ (hexL n).length ∧ (hexL n).length ≤ 21 := by rw [hexL_len]; exact ⟨by decide, by decide⟩
end Go.Proofs.YtleakieppapjmaaDoor
