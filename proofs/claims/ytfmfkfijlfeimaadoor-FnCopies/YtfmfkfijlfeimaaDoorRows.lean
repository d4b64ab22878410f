/-
  NARROWER THAN 'FOR EVERY INPUT', by the rows' own cells (each row's printed sentence says how): FnWords: ifaces, laid · FnCopies: ifaces, laid · FnExactLoadWord: ifaces, laid · FnExactStoreWord: ifaces, laid · FnExactCopyWords: ifaces, laid.
  DERIVED. THE GIVEN ROWS OF THIS SEAT. 5 by the template 'for every input the law returns true; each argument reads behind the call as it read before'; 0 by the template 'total and deterministic' (their statements: YtfmfkfijlfeimaaDoorTotals.lean).
  GIVEN WITH THE SEED: the statements are not yours to turn. If you find one false, say at which input.
  Laid BY PROGRAM, IN A SANDBOX (cutbox-rows.mjs): the forced cells as the released guide's own fill.sh prints them over the translation aad35bf41fdbe965… (all of the seat's roots in one cut). By AI agents, Wed Nov 11 2026. No macro, syntax, notation, axiom, sorry.
-/
import Derived.Test.YtfmfkfijlfeimaaDoorChecked
import GoSem.Claim
import GoSem.ClaimJoined
import GoSem.ClaimMapViews
import Derived.JoinedTies
import Derived.KernelRfl
namespace Go.Proofs.YtfmfkfijlfeimaaDoor
/- THE CELL 'sum', in the pinned program and in every row, IS THE sha256 OF THE DUMP (.gsa) THAT YtfmfkfijlfeimaaDoorProg.lean LOADS. Nothing in Lean hashes anything: it is a label: what it is worth is what the hold of that sum in a sandbox is worth. -/
noncomputable def Tryd.pinned : Pinned := { name := "ytfmfkfijlfeimaadoor", sum := "aad35bf41fdbe965f1852d8867c4d747d8302526b83acac398dc187487085ea6", checked := Tryd.checked }
namespace Rows
def none {H : Type} : Left H := { results := [], args := [] }

/- WHAT THE LISTED PACKAGE-LEVEL VARIABLES READ AS WHEN THE CALL BEGINS. Each datum BY PROGRAM (the guide's laid-datum.mjs) off the statement by which the dump's own 'gosem.cut.vars' lays the variable. In a bare row this is a premise. The card (YtfmfkfijlfeimaaDoorCards.lean) ties it to the program's text. -/
def laid_loop_example_g00306_impl_errOutside {H : Type} : DataW H := .iface "*errors.errorString" (.ptr (.agg [.lit (.string [111, 117, 116, 115, 105, 100, 101, 32, 116, 104, 101, 32, 109, 101, 109, 111, 114, 121])]))

/-- 'laws.FnWords': WHATEVER THE INPUT: true; the input reads as it did. -/
def fnWordsSpec : ChangeSpec := { name := "fnWords", vars := ["loop.example/g00306/impl.errOutside"], fn := fun _ => fun
  | [d, g1] => { results := [.lit (.bool true)], args := [d], vars := [g1] }
  | _ => none }
def fnWordsRow : OpenClaim := { program := "ytfmfkfijlfeimaadoor", sum := "aad35bf41fdbe965f1852d8867c4d747d8302526b83acac398dc187487085ea6", func := "loop.example/g00306/laws.FnWords", spec := "fnWords", inPlace := ["internal/reflectlite.TypeOf"], unfollowed := true, recurses := true, named := ["loop.example/g00306/impl.errOutside"], ifaces := true, apart := false, laid := [("loop.example/g00306/impl.errOutside", laid_loop_example_g00306_impl_errOutside)] }
def FnWordsSaid : Prop := fnWordsRow.holds Tryd.pinned (OpenSpec.ofChange fnWordsSpec)

/-- ITS FALSE NEIGHBOUR: 'it returns false'. Refute it at one input. -/
def fnWordsWrong : ChangeSpec := { name := "fnWords", vars := ["loop.example/g00306/impl.errOutside"], fn := fun _ => fun
  | [d, g1] => { results := [.lit (.bool false)], args := [d], vars := [g1] }
  | _ => none }
def FnWordsWrongFalsely : Prop := fnWordsRow.holds Tryd.pinned (OpenSpec.ofChange fnWordsWrong)

/-- 'laws.FnCopies': WHATEVER THE INPUT: true; the input reads as it did. -/
def fnCopiesSpec : ChangeSpec := { name := "fnCopies", vars := ["loop.example/g00306/impl.errOutside"], fn := fun _ => fun
  | [d, g1] => { results := [.lit (.bool true)], args := [d], vars := [g1] }
  | _ => none }
def fnCopiesRow : OpenClaim := { program := "ytfmfkfijlfeimaadoor", sum := "aad35bf41fdbe965f1852d8867c4d747d8302526b83acac398dc187487085ea6", func := "loop.example/g00306/laws.FnCopies", spec := "fnCopies", inPlace := ["internal/reflectlite.TypeOf"], unfollowed := true, recurses := true, named := ["loop.example/g00306/impl.errOutside"], ifaces := true, apart := false, laid := [("loop.example/g00306/impl.errOutside", laid_loop_example_g00306_impl_errOutside)] }
def FnCopiesSaid : Prop := fnCopiesRow.holds Tryd.pinned (OpenSpec.ofChange fnCopiesSpec)

/-- ITS FALSE NEIGHBOUR: 'it returns false'. Refute it at one input. -/
def fnCopiesWrong : ChangeSpec := { name := "fnCopies", vars := ["loop.example/g00306/impl.errOutside"], fn := fun _ => fun
  | [d, g1] => { results := [.lit (.bool false)], args := [d], vars := [g1] }
  | _ => none }
def FnCopiesWrongFalsely : Prop := fnCopiesRow.holds Tryd.pinned (OpenSpec.ofChange fnCopiesWrong)

/-- 'laws.FnExactLoadWord': WHATEVER THE INPUT: true; the input reads as it did. -/
def fnExactLoadWordSpec : ChangeSpec := { name := "fnExactLoadWord", vars := ["loop.example/g00306/impl.errOutside"], fn := fun _ => fun
  | [d1, d2, g1] => { results := [.lit (.bool true)], args := [d1, d2], vars := [g1] }
  | _ => none }
def fnExactLoadWordRow : OpenClaim := { program := "ytfmfkfijlfeimaadoor", sum := "aad35bf41fdbe965f1852d8867c4d747d8302526b83acac398dc187487085ea6", func := "loop.example/g00306/laws.FnExactLoadWord", spec := "fnExactLoadWord", inPlace := ["internal/reflectlite.TypeOf"], unfollowed := true, recurses := true, named := ["loop.example/g00306/impl.errOutside"], ifaces := true, apart := false, laid := [("loop.example/g00306/impl.errOutside", laid_loop_example_g00306_impl_errOutside)] }
def FnExactLoadWordSaid : Prop := fnExactLoadWordRow.holds Tryd.pinned (OpenSpec.ofChange fnExactLoadWordSpec)

/-- ITS FALSE NEIGHBOUR: 'it returns false'. Refute it at one input. -/
def fnExactLoadWordWrong : ChangeSpec := { name := "fnExactLoadWord", vars := ["loop.example/g00306/impl.errOutside"], fn := fun _ => fun
  | [d1, d2, g1] => { results := [.lit (.bool false)], args := [d1, d2], vars := [g1] }
  | _ => none }
def FnExactLoadWordWrongFalsely : Prop := fnExactLoadWordRow.holds Tryd.pinned (OpenSpec.ofChange fnExactLoadWordWrong)

/-- 'laws.FnExactStoreWord': WHATEVER THE INPUT: true; the input reads as it did. -/
def fnExactStoreWordSpec : ChangeSpec := { name := "fnExactStoreWord", vars := ["loop.example/g00306/impl.errOutside"], fn := fun _ => fun
  | [d1, d2, d3, g1] => { results := [.lit (.bool true)], args := [d1, d2, d3], vars := [g1] }
  | _ => none }
def fnExactStoreWordRow : OpenClaim := { program := "ytfmfkfijlfeimaadoor", sum := "aad35bf41fdbe965f1852d8867c4d747d8302526b83acac398dc187487085ea6", func := "loop.example/g00306/laws.FnExactStoreWord", spec := "fnExactStoreWord", inPlace := ["internal/reflectlite.TypeOf"], unfollowed := true, recurses := true, named := ["loop.example/g00306/impl.errOutside"], ifaces := true, apart := false, laid := [("loop.example/g00306/impl.errOutside", laid_loop_example_g00306_impl_errOutside)] }
def FnExactStoreWordSaid : Prop := fnExactStoreWordRow.holds Tryd.pinned (OpenSpec.ofChange fnExactStoreWordSpec)

/-- ITS FALSE NEIGHBOUR: 'it returns false'. Refute it at one input. -/
def fnExactStoreWordWrong : ChangeSpec := { name := "fnExactStoreWord", vars := ["loop.example/g00306/impl.errOutside"], fn := fun _ => fun
  | [d1, d2, d3, g1] => { results := [.lit (.bool false)], args := [d1, d2, d3], vars := [g1] }
  | _ => none }
def FnExactStoreWordWrongFalsely : Prop := fnExactStoreWordRow.holds Tryd.pinned (OpenSpec.ofChange fnExactStoreWordWrong)

/-- 'laws.FnExactCopyWords': WHATEVER THE INPUT: true; the input reads as it did. -/
def fnExactCopyWordsSpec : ChangeSpec := { name := "fnExactCopyWords", vars := ["loop.example/g00306/impl.errOutside"], fn := fun _ => fun
  | [d1, d2, d3, d4, g1] => { results := [.lit (.bool true)], args := [d1, d2, d3, d4], vars := [g1] }
  | _ => none }
def fnExactCopyWordsRow : OpenClaim := { program := "ytfmfkfijlfeimaadoor", sum := "aad35bf41fdbe965f1852d8867c4d747d8302526b83acac398dc187487085ea6", func := "loop.example/g00306/laws.FnExactCopyWords", spec := "fnExactCopyWords", inPlace := ["internal/reflectlite.TypeOf"], unfollowed := true, recurses := true, named := ["loop.example/g00306/impl.errOutside"], ifaces := true, apart := false, laid := [("loop.example/g00306/impl.errOutside", laid_loop_example_g00306_impl_errOutside)] }
def FnExactCopyWordsSaid : Prop := fnExactCopyWordsRow.holds Tryd.pinned (OpenSpec.ofChange fnExactCopyWordsSpec)

/-- ITS FALSE NEIGHBOUR: 'it returns false'. Refute it at one input. -/
def fnExactCopyWordsWrong : ChangeSpec := { name := "fnExactCopyWords", vars := ["loop.example/g00306/impl.errOutside"], fn := fun _ => fun
  | [d1, d2, d3, d4, g1] => { results := [.lit (.bool false)], args := [d1, d2, d3, d4], vars := [g1] }
  | _ => none }
def FnExactCopyWordsWrongFalsely : Prop := fnExactCopyWordsRow.holds Tryd.pinned (OpenSpec.ofChange fnExactCopyWordsWrong)

/- THE SECOND FORM. 'bulk': how many values and letters a reading holds, each counted each time it is reached (what is shared counts as often as it is met; a slice's spare places count too). A statement '..UptoSaid' is the law's where the arguments, and the package variables that the reading takes, are together of bulk at most 1048576: NARROWER than '..Said'. Prove '..Said' where nothing that the law and all that it calls make is longer than what came in: it says more and counts as full. Else prove '..UptoSaid'. A law counts once. -/
mutual
def uptoBulk {H : Type} : DataW H → Nat
  | .lit (.string bytes) => bytes.length + 1
  | .lit _ => 1
  | .nil => 1
  | .ptr d => uptoBulk d + 1
  | .slice elems spare => uptoBulkAll elems + uptoBulkAll spare + 1
  | .agg parts => uptoBulkAll parts + 1
  | .iface _ d => uptoBulk d + 1
  | .map entries => uptoBulkEntries entries + 1
  | .held _ => 1
def uptoBulkAll {H : Type} : List (DataW H) → Nat
  | [] => 0
  | d :: r => uptoBulk d + uptoBulkAll r
def uptoBulkEntries {H : Type} : List (Lit × DataW H) → Nat
  | [] => 0
  | x :: r => uptoBulkEntry x + uptoBulkEntries r
def uptoBulkEntry {H : Type} : Lit × DataW H → Nat
  | (.string bytes, d) => bytes.length + uptoBulk d + 1
  | (_, d) => uptoBulk d + 1
 end
def uptoSmall : (H : Type) → List (DataW H) → Bool := fun _ ds => decide (uptoBulkAll ds ≤ 1048576)
def OpenSpec.upto (s : _root_.Go.ChangeSpec) : _root_.Go.OpenSpec := { _root_.Go.OpenSpec.ofChange s with cond := some uptoSmall }

/-- 'laws.FnWords', WHERE WHAT IT READS IS OF BULK AT MOST 1048576: true; the input reads as it did. -/
def fnWordsUptoRow : OpenClaim := { program := "ytfmfkfijlfeimaadoor", sum := "aad35bf41fdbe965f1852d8867c4d747d8302526b83acac398dc187487085ea6", func := "loop.example/g00306/laws.FnWords", spec := "fnWords", inPlace := ["internal/reflectlite.TypeOf"], unfollowed := true, recurses := true, named := ["loop.example/g00306/impl.errOutside"], ifaces := true, apart := false, laid := [("loop.example/g00306/impl.errOutside", laid_loop_example_g00306_impl_errOutside)], narrowed := true }
def FnWordsUptoSaid : Prop := fnWordsUptoRow.holds Tryd.pinned (OpenSpec.upto fnWordsSpec)

/-- 'laws.FnCopies', WHERE WHAT IT READS IS OF BULK AT MOST 1048576: true; the input reads as it did. -/
def fnCopiesUptoRow : OpenClaim := { program := "ytfmfkfijlfeimaadoor", sum := "aad35bf41fdbe965f1852d8867c4d747d8302526b83acac398dc187487085ea6", func := "loop.example/g00306/laws.FnCopies", spec := "fnCopies", inPlace := ["internal/reflectlite.TypeOf"], unfollowed := true, recurses := true, named := ["loop.example/g00306/impl.errOutside"], ifaces := true, apart := false, laid := [("loop.example/g00306/impl.errOutside", laid_loop_example_g00306_impl_errOutside)], narrowed := true }
def FnCopiesUptoSaid : Prop := fnCopiesUptoRow.holds Tryd.pinned (OpenSpec.upto fnCopiesSpec)

/-- 'laws.FnExactLoadWord', WHERE WHAT IT READS IS OF BULK AT MOST 1048576: true; the input reads as it did. -/
def fnExactLoadWordUptoRow : OpenClaim := { program := "ytfmfkfijlfeimaadoor", sum := "aad35bf41fdbe965f1852d8867c4d747d8302526b83acac398dc187487085ea6", func := "loop.example/g00306/laws.FnExactLoadWord", spec := "fnExactLoadWord", inPlace := ["internal/reflectlite.TypeOf"], unfollowed := true, recurses := true, named := ["loop.example/g00306/impl.errOutside"], ifaces := true, apart := false, laid := [("loop.example/g00306/impl.errOutside", laid_loop_example_g00306_impl_errOutside)], narrowed := true }
def FnExactLoadWordUptoSaid : Prop := fnExactLoadWordUptoRow.holds Tryd.pinned (OpenSpec.upto fnExactLoadWordSpec)

/-- 'laws.FnExactStoreWord', WHERE WHAT IT READS IS OF BULK AT MOST 1048576: true; the input reads as it did. -/
def fnExactStoreWordUptoRow : OpenClaim := { program := "ytfmfkfijlfeimaadoor", sum := "aad35bf41fdbe965f1852d8867c4d747d8302526b83acac398dc187487085ea6", func := "loop.example/g00306/laws.FnExactStoreWord", spec := "fnExactStoreWord", inPlace := ["internal/reflectlite.TypeOf"], unfollowed := true, recurses := true, named := ["loop.example/g00306/impl.errOutside"], ifaces := true, apart := false, laid := [("loop.example/g00306/impl.errOutside", laid_loop_example_g00306_impl_errOutside)], narrowed := true }
def FnExactStoreWordUptoSaid : Prop := fnExactStoreWordUptoRow.holds Tryd.pinned (OpenSpec.upto fnExactStoreWordSpec)

/-- 'laws.FnExactCopyWords', WHERE WHAT IT READS IS OF BULK AT MOST 1048576: true; the input reads as it did. -/
def fnExactCopyWordsUptoRow : OpenClaim := { program := "ytfmfkfijlfeimaadoor", sum := "aad35bf41fdbe965f1852d8867c4d747d8302526b83acac398dc187487085ea6", func := "loop.example/g00306/laws.FnExactCopyWords", spec := "fnExactCopyWords", inPlace := ["internal/reflectlite.TypeOf"], unfollowed := true, recurses := true, named := ["loop.example/g00306/impl.errOutside"], ifaces := true, apart := false, laid := [("loop.example/g00306/impl.errOutside", laid_loop_example_g00306_impl_errOutside)], narrowed := true }
def FnExactCopyWordsUptoSaid : Prop := fnExactCopyWordsUptoRow.holds Tryd.pinned (OpenSpec.upto fnExactCopyWordsSpec)

end Rows
end Go.Proofs.YtfmfkfijlfeimaaDoor
