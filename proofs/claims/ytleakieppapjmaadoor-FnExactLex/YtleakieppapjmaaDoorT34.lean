/- The digits of a float's bits, by the model. -/
import Derived.Test.YtleakieppapjmaaDoorT33
import Derived.Lib.SlBytesConst
import Derived.ArgAppend
import Derived.Laws.Bits64b
namespace Go.Proofs.YtleakieppapjmaaDoor
open Go.RowKit Go.Lib
theorem hexF_step (k u j : Nat) : hexF (k + 1) (u / 16 ^ j) = hexF k (u / 16 ^ (j + 1)) ++ [hexD (u / 16 ^ j % 16)] := by
  rw [hexF, Nat.div_div_eq_div_mul, ← Nat.pow_succ]
theorem hexF_len (k u : Nat) : (hexF k u).length = k := by
  induction k generalizing u with
  | zero => rfl
  | succ k ih => rw [hexF, List.length_append, ih]; rfl
theorem hexL_len (n : Int) : (hexL n).length = 18 := by unfold hexL; rw [List.length_append, hexF_len]; rfl
theorem and15 (u k : Nat) (hu : u < 18446744073709551616) : bits .and .u64 ((u : Int) / 2 ^ (4 * k)) 15 = ((u / 16 ^ k % 16 : Nat) : Int) := by
  have e : ((u : Int) / 2 ^ (4 * k)) = ((u / 16 ^ k : Nat) : Int) := by rw [Int.natCast_ediv, Int.natCast_pow]; rw [Int.pow_mul]; rfl
  have h : u / 16 ^ k < 18446744073709551616 := Nat.lt_of_le_of_lt (Nat.div_le_self _ _) hu
  rw [e]
  have h2 := bits_and_u64_nat (u / 16 ^ k) 15 h (by decide)
  rw [show ((15 : Nat) : Int) = 15 from rfl] at h2
  rw [h2, show (15 : Nat) = 2 ^ 4 - 1 from rfl, Nat.and_two_pow_sub_one_eq_mod]
theorem hex_lit : ∀ (D : Nat) (h : D < 16), ((((⟨#[48, 49, 50, 51, 52, 53, 54, 55, 56, 57, 97, 98, 99, 100, 101, 102]⟩ : ByteArray)[D]'h).toNat : Nat) : Int) = hexD D := by
  intro D h
  obtain rfl | rfl | rfl | rfl | rfl | rfl | rfl | rfl | rfl | rfl | rfl | rfl | rfl | rfl | rfl | rfl : D = 0 ∨ D = 1 ∨ D = 2 ∨ D = 3 ∨ D = 4 ∨ D = 5 ∨ D = 6 ∨ D = 7 ∨ D = 8 ∨ D = 9 ∨ D = 10 ∨ D = 11 ∨ D = 12 ∨ D = 13 ∨ D = 14 ∨ D = 15 := by omega
  all_goals rfl
theorem two_cells {wr : World} {g : Nat} (hc0 : wr.cell? ⟨g, 0, none⟩ = some (.int .u8 48)) (hc1 : wr.cell? ⟨g, 1, none⟩ = some (.int .u8 102)) (o : Obj) : ∀ b, some (⟨g, 0, none⟩ : Addr) = some b → ∀ j u, [Value.int .u8 48, Value.int .u8 102][j]? = some u → (wr.alloc o).cell? (b.add j) = some u := by
  intro b hb j u hj
  cases hb
  match j with
  | 0 =>
    have e : Value.int .u8 48 = u := by simpa using hj
    rw [Addr.add_lit, ← e]
    exact cell?_alloc_marked o hc0
  | 1 =>
    have e : Value.int .u8 102 = u := by simpa using hj
    rw [Addr.add_lit, ← e]
    exact cell?_alloc_marked o hc1
  | j + 2 => simp at hj
theorem cell_new (w : World) (C : Array Value) (e : TypeId) (f : Nat × Nat) (j : Nat) (v : Value) (h : C[j]? = some v) : (w.alloc (.cells C e f)).cell? ⟨w.heap.size, j, none⟩ = some v := by
  have : (w.alloc (.cells C e f)).heap[w.heap.size]? = some (.cells C e f) := by
    show (w.heap.push _)[w.heap.size]? = _
    simp
  unfold World.cell?
  show (match (w.alloc (.cells C e f)).heap[w.heap.size]? with | some (.cells c _ _) => c[j]? | _ => none) = some v
  rw [this]
  exact h
/-- The row under way: of the call's own, or the two signs that it begins with. -/
def HxR (W w : World) (v : Value) (zs : List Int) : Prop := Bf W W w v zs ∨ (zs = [48, 102] ∧ Later W w ∧ v = .slice (some ⟨W.heap.size, 0, none⟩) 2 2 ∧ w.cell? ⟨W.heap.size, 0, none⟩ = some (.int .u8 48) ∧ w.cell? ⟨W.heap.size, 1, none⟩ = some (.int .u8 102))
end Go.Proofs.YtleakieppapjmaaDoor
