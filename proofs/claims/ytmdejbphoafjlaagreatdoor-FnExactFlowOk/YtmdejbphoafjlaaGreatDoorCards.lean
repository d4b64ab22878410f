/-
  DERIVED. GIVEN WITH THE SEED: THE CARDS: each row of YtmdejbphoafjlaaGreatDoorRows.lean that lists a variable, with what it lists TIED to the program's text (the seventh form; the later family's looks); each row that meets fmt, with fmt's text TOLD by the authors' own Lean function (tested against real Go, not proved from fmt's source: count such statements apart). THE CARD IS WHAT COUNTS. Prove the row's statement (the work); the ties are given (YtmdejbphoafjlaaGreatDoorTie.lean); close each card by the builder's one call (the guide's Derived/Test/ToyasCard.lean, 'card_holds'). Laid BY PROGRAM, IN A SANDBOX (cutbox-door.mjs). By AI agents, Wed Nov 11 2026. No macro, syntax, notation, axiom, sorry.
-/
import Derived.Test.YtmdejbphoafjlaaGreatDoorRows
import GoSem.ClaimSeven
namespace Go.Proofs.YtmdejbphoafjlaaGreatDoor
namespace Rows

/-- THE TIED CARD OF 'laws.FnExactNamesOk'. -/
def fnExactNamesOkCard : Claim7 := { stood := { row := fnExactNamesOkRow, standIns := [], harness := (true, "651c21300b4a324401d87559702965c55fedcf6aaf15305e15f0a64b8a891e86"), looks := true }, kinds := [], alts := [], laidByText := true, laidKinds := [.data, .data, .data, .data, .data, .data], laidTests := true, laidLooks := .later }
def FnExactNamesOkCardSaid : Prop := Claim7.holds Tryz.pinned (.plain (OpenSpec.ofChange fnExactNamesOkSpec)) fnExactNamesOkCard

/-- THE TIED CARD OF 'laws.FnExactFlowOk'. -/
def fnExactFlowOkCard : Claim7 := { stood := { row := fnExactFlowOkRow, standIns := [], harness := (true, "651c21300b4a324401d87559702965c55fedcf6aaf15305e15f0a64b8a891e86"), looks := true }, kinds := [], alts := [], laidByText := true, laidKinds := [.data, .data, .data, .data, .data, .data], laidTests := true, laidLooks := .later }
def FnExactFlowOkCardSaid : Prop := Claim7.holds Tryz.pinned (.plain (OpenSpec.ofChange fnExactFlowOkSpec)) fnExactFlowOkCard

/-- THE TIED CARD OF 'laws.FnExactCheck'. -/
def fnExactCheckCard : Claim7 := { stood := { row := fnExactCheckRow, standIns := [], harness := (true, "651c21300b4a324401d87559702965c55fedcf6aaf15305e15f0a64b8a891e86"), looks := true }, kinds := [], alts := [], laidByText := true, laidKinds := [.data, .data, .data, .data, .data, .data], laidTests := true, laidLooks := .later }
def FnExactCheckCardSaid : Prop := Claim7.holds Tryz.pinned (.plain (OpenSpec.ofChange fnExactCheckSpec)) fnExactCheckCard

/-- THE TIED CARD OF 'laws.FnExactTypedOk'. -/
def fnExactTypedOkCard : Claim7 := { stood := { row := fnExactTypedOkRow, standIns := [], harness := (true, "651c21300b4a324401d87559702965c55fedcf6aaf15305e15f0a64b8a891e86"), looks := true }, kinds := [], alts := [], laidByText := true, laidKinds := [.data, .data, .data, .data, .data, .data], laidTests := true, laidLooks := .later }
def FnExactTypedOkCardSaid : Prop := Claim7.holds Tryz.pinned (.plain (OpenSpec.ofChange fnExactTypedOkSpec)) fnExactTypedOkCard

/-- THE SECOND FORM's CARD OF 'laws.FnExactNamesOk'. -/
def fnExactNamesOkUptoCard : Claim7 := { stood := { row := fnExactNamesOkUptoRow, standIns := [], harness := (true, "651c21300b4a324401d87559702965c55fedcf6aaf15305e15f0a64b8a891e86"), looks := true }, kinds := [], alts := [], laidByText := true, laidKinds := [.data, .data, .data, .data, .data, .data], laidTests := true, laidLooks := .later }
def FnExactNamesOkUptoCardSaid : Prop := Claim7.holds Tryz.pinned (.plain (OpenSpec.upto fnExactNamesOkSpec)) fnExactNamesOkUptoCard

/-- THE SECOND FORM's CARD OF 'laws.FnExactFlowOk'. -/
def fnExactFlowOkUptoCard : Claim7 := { stood := { row := fnExactFlowOkUptoRow, standIns := [], harness := (true, "651c21300b4a324401d87559702965c55fedcf6aaf15305e15f0a64b8a891e86"), looks := true }, kinds := [], alts := [], laidByText := true, laidKinds := [.data, .data, .data, .data, .data, .data], laidTests := true, laidLooks := .later }
def FnExactFlowOkUptoCardSaid : Prop := Claim7.holds Tryz.pinned (.plain (OpenSpec.upto fnExactFlowOkSpec)) fnExactFlowOkUptoCard

/-- THE SECOND FORM's CARD OF 'laws.FnExactCheck'. -/
def fnExactCheckUptoCard : Claim7 := { stood := { row := fnExactCheckUptoRow, standIns := [], harness := (true, "651c21300b4a324401d87559702965c55fedcf6aaf15305e15f0a64b8a891e86"), looks := true }, kinds := [], alts := [], laidByText := true, laidKinds := [.data, .data, .data, .data, .data, .data], laidTests := true, laidLooks := .later }
def FnExactCheckUptoCardSaid : Prop := Claim7.holds Tryz.pinned (.plain (OpenSpec.upto fnExactCheckSpec)) fnExactCheckUptoCard

/-- THE SECOND FORM's CARD OF 'laws.FnExactTypedOk'. -/
def fnExactTypedOkUptoCard : Claim7 := { stood := { row := fnExactTypedOkUptoRow, standIns := [], harness := (true, "651c21300b4a324401d87559702965c55fedcf6aaf15305e15f0a64b8a891e86"), looks := true }, kinds := [], alts := [], laidByText := true, laidKinds := [.data, .data, .data, .data, .data, .data], laidTests := true, laidLooks := .later }
def FnExactTypedOkUptoCardSaid : Prop := Claim7.holds Tryz.pinned (.plain (OpenSpec.upto fnExactTypedOkSpec)) fnExactTypedOkUptoCard
end Rows
end Go.Proofs.YtmdejbphoafjlaaGreatDoor
