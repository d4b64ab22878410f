/- Signs of operators, by the model. -/
import Derived.Test.YtbigjeejmacjcaaGreatDoorT32
namespace Go.Proofs.YtbigjeejmacjcaaGreatDoor
open Go.RowKit Go.Lib
def opS (n : Int) : ByteArray := if n = 0 then ⟨#[43]⟩ else if n = 1 then ⟨#[45]⟩ else if n = 2 then ⟨#[42]⟩ else if n = 3 then ⟨#[47]⟩ else if n = 4 then ⟨#[37]⟩ else if n = 5 then ⟨#[60]⟩ else ⟨#[61, 61]⟩
theorem seven {n : Int} (h0 : 0 ≤ n) (h1 : n < 7) : n = 0 ∨ n = 1 ∨ n = 2 ∨ n = 3 ∨ n = 4 ∨ n = 5 ∨ n = 6 := by omega
theorem opS_cells {n : Int} (h0 : 0 ≤ n) (h1 : n < 7) : strCells (opS n) = (opL n).map (Value.int .u8) ∧ (opS n).size = (opL n).length ∧ (opL n).length ≤ 2 := by
  rcases seven h0 h1 with rfl | rfl | rfl | rfl | rfl | rfl | rfl
  all_goals exact ⟨rfl, rfl, by decide⟩
set_option maxRecDepth 20000 in
set_option maxHeartbeats 1000000 in
theorem op_any (n : Int) (w : World) (h0 : 0 ≤ n) (h1 : n < 7) : Calls Tryz.prog 76 #[.int .i64 n] w fun e w' => e = .returned (.string (opS n)) ∧ Later w w' := by
  rcases seven h0 h1 with rfl | rfl | rfl | rfl | rfl | rfl | rfl
  all_goals
    go_enter Tryz.func76, Tryz.ntmps76
    go_wp2_with fail
    go_ret
    exact ⟨rfl, later1 _ _⟩
end Go.Proofs.YtbigjeejmacjcaaGreatDoor
