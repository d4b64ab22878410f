/- Signs of operators, by the model. -/
import Derived.Test.YtleakieppapjmaaDoorT32
namespace Go.Proofs.YtleakieppapjmaaDoor
open Go.RowKit Go.Lib
def opS (n : Int) : ByteArray := if n = 0 then ⟨#[43]⟩ else if n = 1 then ⟨#[45]⟩ else if n = 2 then ⟨#[42]⟩ else if n = 3 then ⟨#[47]⟩ else if n = 4 then ⟨#[37]⟩ else if n = 5 then ⟨#[60]⟩ else ⟨#[61, 61]⟩
theorem seven {n : Int} (h0 : 0 ≤ n) (h1 : n < 7) : n = 0 ∨ n = 1 ∨ n = 2 ∨ n = 3 ∨ n = 4 ∨ n = 5 ∨ n = 6 := by omega
theorem opS_cells {n : Int} (h0 : 0 ≤ n) (h1 : n < 7) : strCells (opS n) = (opL n).map (Value.int .u8) ∧ (opS n).size = (opL n).length ∧ (opL n).length ≤ 2 := by
  rcases seven h0 h1 with rfl | rfl | rfl | rfl | rfl | rfl | rfl
  all_goals exact ⟨rfl, rfl, by decide⟩
end Go.Proofs.YtleakieppapjmaaDoor
