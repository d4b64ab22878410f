/-
  DERIVED. GIVEN WITH THE SEED: THE CARDS: each row of YtfmfkfijlfeimaaDoorRows.lean that lists a variable, with what it lists TIED to the program's text (the seventh form; the later family's looks); each row that meets fmt, with fmt's text TOLD by the authors' own Lean function (tested against real Go, not proved from fmt's source: count such statements apart). THE CARD IS WHAT COUNTS. Prove the row's statement (the work); the ties are given (YtfmfkfijlfeimaaDoorTie.lean); close each card by the builder's one call (the guide's Derived/Test/ToyasCard.lean, 'card_holds'). Laid BY PROGRAM, IN A SANDBOX (cutbox-door.mjs). By AI agents, Wed Nov 11 2026. No macro, syntax, notation, axiom, sorry.
-/
import Derived.Test.YtfmfkfijlfeimaaDoorRows
import GoSem.ClaimSeven
namespace Go.Proofs.YtfmfkfijlfeimaaDoor
namespace Rows

/-- THE TIED CARD OF 'laws.FnWords'. -/
def fnWordsCard : Claim7 := { stood := { row := fnWordsRow, standIns := [], harness := (true, "6300d9e867fe78adf29fe58d12cb7ccac8505d7f98673779d67bff96b31c33bc"), looks := true }, kinds := [], alts := [], laidByText := true, laidKinds := [.sentinel], laidTests := true, laidLooks := .later }
def FnWordsCardSaid : Prop := Claim7.holds Tryd.pinned (.plain (OpenSpec.ofChange fnWordsSpec)) fnWordsCard

/-- THE TIED CARD OF 'laws.FnCopies'. -/
def fnCopiesCard : Claim7 := { stood := { row := fnCopiesRow, standIns := [], harness := (true, "6300d9e867fe78adf29fe58d12cb7ccac8505d7f98673779d67bff96b31c33bc"), looks := true }, kinds := [], alts := [], laidByText := true, laidKinds := [.sentinel], laidTests := true, laidLooks := .later }
def FnCopiesCardSaid : Prop := Claim7.holds Tryd.pinned (.plain (OpenSpec.ofChange fnCopiesSpec)) fnCopiesCard

/-- THE TIED CARD OF 'laws.FnExactLoadWord'. -/
def fnExactLoadWordCard : Claim7 := { stood := { row := fnExactLoadWordRow, standIns := [], harness := (true, "6300d9e867fe78adf29fe58d12cb7ccac8505d7f98673779d67bff96b31c33bc"), looks := true }, kinds := [], alts := [], laidByText := true, laidKinds := [.sentinel], laidTests := true, laidLooks := .later }
def FnExactLoadWordCardSaid : Prop := Claim7.holds Tryd.pinned (.plain (OpenSpec.ofChange fnExactLoadWordSpec)) fnExactLoadWordCard

/-- THE TIED CARD OF 'laws.FnExactStoreWord'. -/
def fnExactStoreWordCard : Claim7 := { stood := { row := fnExactStoreWordRow, standIns := [], harness := (true, "6300d9e867fe78adf29fe58d12cb7ccac8505d7f98673779d67bff96b31c33bc"), looks := true }, kinds := [], alts := [], laidByText := true, laidKinds := [.sentinel], laidTests := true, laidLooks := .later }
def FnExactStoreWordCardSaid : Prop := Claim7.holds Tryd.pinned (.plain (OpenSpec.ofChange fnExactStoreWordSpec)) fnExactStoreWordCard

/-- THE TIED CARD OF 'laws.FnExactCopyWords'. -/
def fnExactCopyWordsCard : Claim7 := { stood := { row := fnExactCopyWordsRow, standIns := [], harness := (true, "6300d9e867fe78adf29fe58d12cb7ccac8505d7f98673779d67bff96b31c33bc"), looks := true }, kinds := [], alts := [], laidByText := true, laidKinds := [.sentinel], laidTests := true, laidLooks := .later }
def FnExactCopyWordsCardSaid : Prop := Claim7.holds Tryd.pinned (.plain (OpenSpec.ofChange fnExactCopyWordsSpec)) fnExactCopyWordsCard

/-- THE SECOND FORM's CARD OF 'laws.FnWords'. -/
def fnWordsUptoCard : Claim7 := { stood := { row := fnWordsUptoRow, standIns := [], harness := (true, "6300d9e867fe78adf29fe58d12cb7ccac8505d7f98673779d67bff96b31c33bc"), looks := true }, kinds := [], alts := [], laidByText := true, laidKinds := [.sentinel], laidTests := true, laidLooks := .later }
def FnWordsUptoCardSaid : Prop := Claim7.holds Tryd.pinned (.plain (OpenSpec.upto fnWordsSpec)) fnWordsUptoCard

/-- THE SECOND FORM's CARD OF 'laws.FnCopies'. -/
def fnCopiesUptoCard : Claim7 := { stood := { row := fnCopiesUptoRow, standIns := [], harness := (true, "6300d9e867fe78adf29fe58d12cb7ccac8505d7f98673779d67bff96b31c33bc"), looks := true }, kinds := [], alts := [], laidByText := true, laidKinds := [.sentinel], laidTests := true, laidLooks := .later }
def FnCopiesUptoCardSaid : Prop := Claim7.holds Tryd.pinned (.plain (OpenSpec.upto fnCopiesSpec)) fnCopiesUptoCard

/-- THE SECOND FORM's CARD OF 'laws.FnExactLoadWord'. -/
def fnExactLoadWordUptoCard : Claim7 := { stood := { row := fnExactLoadWordUptoRow, standIns := [], harness := (true, "6300d9e867fe78adf29fe58d12cb7ccac8505d7f98673779d67bff96b31c33bc"), looks := true }, kinds := [], alts := [], laidByText := true, laidKinds := [.sentinel], laidTests := true, laidLooks := .later }
def FnExactLoadWordUptoCardSaid : Prop := Claim7.holds Tryd.pinned (.plain (OpenSpec.upto fnExactLoadWordSpec)) fnExactLoadWordUptoCard

/-- THE SECOND FORM's CARD OF 'laws.FnExactStoreWord'. -/
def fnExactStoreWordUptoCard : Claim7 := { stood := { row := fnExactStoreWordUptoRow, standIns := [], harness := (true, "6300d9e867fe78adf29fe58d12cb7ccac8505d7f98673779d67bff96b31c33bc"), looks := true }, kinds := [], alts := [], laidByText := true, laidKinds := [.sentinel], laidTests := true, laidLooks := .later }
def FnExactStoreWordUptoCardSaid : Prop := Claim7.holds Tryd.pinned (.plain (OpenSpec.upto fnExactStoreWordSpec)) fnExactStoreWordUptoCard

/-- THE SECOND FORM's CARD OF 'laws.FnExactCopyWords'. -/
def fnExactCopyWordsUptoCard : Claim7 := { stood := { row := fnExactCopyWordsUptoRow, standIns := [], harness := (true, "6300d9e867fe78adf29fe58d12cb7ccac8505d7f98673779d67bff96b31c33bc"), looks := true }, kinds := [], alts := [], laidByText := true, laidKinds := [.sentinel], laidTests := true, laidLooks := .later }
def FnExactCopyWordsUptoCardSaid : Prop := Claim7.holds Tryd.pinned (.plain (OpenSpec.upto fnExactCopyWordsSpec)) fnExactCopyWordsUptoCard
end Rows
end Go.Proofs.YtfmfkfijlfeimaaDoor
