/-
  DERIVED. GIVEN WITH THE SEED: THE CARDS: each row of YtjfijeiillgaeaaGreatDoorRows.lean that lists a variable, with what it lists TIED to the program's text (the seventh form; the later family's looks); each row that meets fmt, with fmt's text TOLD by the authors' own Lean function (tested against real Go, not proved from fmt's source: count such statements apart). THE CARD IS WHAT COUNTS. Prove the row's statement (the work); the ties are given (YtjfijeiillgaeaaGreatDoorTie.lean); close each card by the builder's one call (the guide's Derived/Test/ToyasCard.lean, 'card_holds'). Laid BY PROGRAM, IN A SANDBOX (cutbox-door.mjs). By AI agents, Wed Nov 11 2026. No macro, syntax, notation, axiom, sorry.
-/
import Derived.Test.YtjfijeiillgaeaaGreatDoorRows
import GoSem.ClaimSeven
namespace Go.Proofs.YtjfijeiillgaeaaGreatDoor
namespace Rows

/-- THE TIED CARD OF 'laws.FnExactSourceOk'. -/
def fnExactSourceOkCard : Claim7 := { stood := { row := fnExactSourceOkRow, standIns := [], harness := (true, "cbd54c13c9ef9df0b8a93fa32397776d3e7bee03cf781b6418af7ae7ddc4777a"), looks := true }, kinds := [], alts := [], laidByText := true, laidKinds := [.data, .data, .data, .data], laidTests := true, laidLooks := .later }
def FnExactSourceOkCardSaid : Prop := Claim7.holds Tryz.pinned (.plain (OpenSpec.ofChange fnExactSourceOkSpec)) fnExactSourceOkCard

/-- THE TIED CARD OF 'laws.FnExactPrint'. -/
def fnExactPrintCard : Claim7 := { stood := { row := fnExactPrintRow, standIns := [], harness := (true, "cbd54c13c9ef9df0b8a93fa32397776d3e7bee03cf781b6418af7ae7ddc4777a"), looks := true }, kinds := [], alts := [], laidByText := true, laidKinds := [.data, .data, .data, .data], laidTests := true, laidLooks := .later }
def FnExactPrintCardSaid : Prop := Claim7.holds Tryz.pinned (.plain (OpenSpec.ofChange fnExactPrintSpec)) fnExactPrintCard

/-- THE TIED CARD OF 'laws.FnExactEval'. -/
def fnExactEvalCard : Claim7 := { stood := { row := fnExactEvalRow, standIns := [], harness := (true, "cbd54c13c9ef9df0b8a93fa32397776d3e7bee03cf781b6418af7ae7ddc4777a"), looks := true }, kinds := [], alts := [], laidByText := true, laidKinds := [.data, .data, .data, .data, .data, .data, .data], laidTests := true, laidLooks := .later }
def FnExactEvalCardSaid : Prop := Claim7.holds Tryz.pinned (.plain (OpenSpec.ofChange fnExactEvalSpec)) fnExactEvalCard

/-- THE SECOND FORM's CARD OF 'laws.FnExactSourceOk'. -/
def fnExactSourceOkUptoCard : Claim7 := { stood := { row := fnExactSourceOkUptoRow, standIns := [], harness := (true, "cbd54c13c9ef9df0b8a93fa32397776d3e7bee03cf781b6418af7ae7ddc4777a"), looks := true }, kinds := [], alts := [], laidByText := true, laidKinds := [.data, .data, .data, .data], laidTests := true, laidLooks := .later }
def FnExactSourceOkUptoCardSaid : Prop := Claim7.holds Tryz.pinned (.plain (OpenSpec.upto fnExactSourceOkSpec)) fnExactSourceOkUptoCard

/-- THE SECOND FORM's CARD OF 'laws.FnExactPrint'. -/
def fnExactPrintUptoCard : Claim7 := { stood := { row := fnExactPrintUptoRow, standIns := [], harness := (true, "cbd54c13c9ef9df0b8a93fa32397776d3e7bee03cf781b6418af7ae7ddc4777a"), looks := true }, kinds := [], alts := [], laidByText := true, laidKinds := [.data, .data, .data, .data], laidTests := true, laidLooks := .later }
def FnExactPrintUptoCardSaid : Prop := Claim7.holds Tryz.pinned (.plain (OpenSpec.upto fnExactPrintSpec)) fnExactPrintUptoCard

/-- THE SECOND FORM's CARD OF 'laws.FnExactEval'. -/
def fnExactEvalUptoCard : Claim7 := { stood := { row := fnExactEvalUptoRow, standIns := [], harness := (true, "cbd54c13c9ef9df0b8a93fa32397776d3e7bee03cf781b6418af7ae7ddc4777a"), looks := true }, kinds := [], alts := [], laidByText := true, laidKinds := [.data, .data, .data, .data, .data, .data, .data], laidTests := true, laidLooks := .later }
def FnExactEvalUptoCardSaid : Prop := Claim7.holds Tryz.pinned (.plain (OpenSpec.upto fnExactEvalSpec)) fnExactEvalUptoCard
end Rows
end Go.Proofs.YtjfijeiillgaeaaGreatDoor
