/-
  No cell of these rows narrows 'for every input' (looked for: loops, veiled, ifaces, maps, wideKeys, modest, calm, conditions, laid).
  DERIVED. THE GIVEN ROWS OF THIS SEAT. 3 by the template 'for every input the law returns true; each argument reads behind the call as it read before'; 0 by the template 'total and deterministic' (their statements: YtlfkjjnhlkaipaaTotals.lean).
  GIVEN WITH THE SEED: the statements are not yours to turn. If you find one false, say at which input.
  Laid BY PROGRAM, IN A SANDBOX (cutbox-rows.mjs): the forced cells as the released guide's own fill.sh prints them over the translation cb4cf9098db2704f… (all of the seat's roots in one cut). By AI agents, Wed Nov 11 2026. No macro, syntax, notation, axiom, sorry.
-/
import Derived.Test.YtlfkjjnhlkaipaaChecked
import GoSem.Claim
import GoSem.ClaimJoined
import GoSem.ClaimMapViews
import Derived.JoinedTies
import Derived.KernelRfl
namespace Go.Proofs.Ytlfkjjnhlkaipaa
/- THE CELL 'sum', in the pinned program and in every row, IS THE sha256 OF THE DUMP (.gsa) THAT YtlfkjjnhlkaipaaProg.lean LOADS. Nothing in Lean hashes anything: it is a label: what it is worth is what the hold of that sum in a sandbox is worth. -/
noncomputable def Try.pinned : Pinned := { name := "ytlfkjjnhlkaipaa", sum := "cb4cf9098db2704f204f8ee32a88239eebe874606e0c981ac9a34b07a2aa16ce", checked := Try.checked }
namespace Rows
def none {H : Type} : Left H := { results := [], args := [] }

/-- 'laws.FnSetups': WHATEVER THE INPUT: true; the input reads as it did. -/
def fnSetupsSpec : ChangeSpec := { name := "fnSetups", fn := fun _ => fun
  | [d] => { results := [.lit (.bool true)], args := [d] }
  | _ => none }
def fnSetupsRow : OpenClaim := { program := "ytlfkjjnhlkaipaa", sum := "cb4cf9098db2704f204f8ee32a88239eebe874606e0c981ac9a34b07a2aa16ce", func := "loop.example/g00306/laws.FnSetups", spec := "fnSetups", apart := false }
def FnSetupsSaid : Prop := fnSetupsRow.holds Try.pinned (OpenSpec.ofChange fnSetupsSpec)

/-- ITS FALSE NEIGHBOUR: 'it returns false'. Refute it at one input. -/
def fnSetupsWrong : ChangeSpec := { name := "fnSetups", fn := fun _ => fun
  | [d] => { results := [.lit (.bool false)], args := [d] }
  | _ => none }
def FnSetupsWrongFalsely : Prop := fnSetupsRow.holds Try.pinned (OpenSpec.ofChange fnSetupsWrong)

/-- 'laws.FnExactImageRead': WHATEVER THE INPUT: true; the input reads as it did. -/
def fnExactImageReadSpec : ChangeSpec := { name := "fnExactImageRead", fn := fun _ => fun
  | [d] => { results := [.lit (.bool true)], args := [d] }
  | _ => none }
def fnExactImageReadRow : OpenClaim := { program := "ytlfkjjnhlkaipaa", sum := "cb4cf9098db2704f204f8ee32a88239eebe874606e0c981ac9a34b07a2aa16ce", func := "loop.example/g00306/laws.FnExactImageRead", spec := "fnExactImageRead", unfollowed := true, recurses := true, apart := false }
def FnExactImageReadSaid : Prop := fnExactImageReadRow.holds Try.pinned (OpenSpec.ofChange fnExactImageReadSpec)

/-- ITS FALSE NEIGHBOUR: 'it returns false'. Refute it at one input. -/
def fnExactImageReadWrong : ChangeSpec := { name := "fnExactImageRead", fn := fun _ => fun
  | [d] => { results := [.lit (.bool false)], args := [d] }
  | _ => none }
def FnExactImageReadWrongFalsely : Prop := fnExactImageReadRow.holds Try.pinned (OpenSpec.ofChange fnExactImageReadWrong)

/-- 'laws.FnExactSetupOk': WHATEVER THE INPUT: true; the input reads as it did. -/
def fnExactSetupOkSpec : ChangeSpec := { name := "fnExactSetupOk", fn := fun _ => fun
  | [d] => { results := [.lit (.bool true)], args := [d] }
  | _ => none }
def fnExactSetupOkRow : OpenClaim := { program := "ytlfkjjnhlkaipaa", sum := "cb4cf9098db2704f204f8ee32a88239eebe874606e0c981ac9a34b07a2aa16ce", func := "loop.example/g00306/laws.FnExactSetupOk", spec := "fnExactSetupOk", apart := false }
def FnExactSetupOkSaid : Prop := fnExactSetupOkRow.holds Try.pinned (OpenSpec.ofChange fnExactSetupOkSpec)

/-- ITS FALSE NEIGHBOUR: 'it returns false'. Refute it at one input. -/
def fnExactSetupOkWrong : ChangeSpec := { name := "fnExactSetupOk", fn := fun _ => fun
  | [d] => { results := [.lit (.bool false)], args := [d] }
  | _ => none }
def FnExactSetupOkWrongFalsely : Prop := fnExactSetupOkRow.holds Try.pinned (OpenSpec.ofChange fnExactSetupOkWrong)

/- THE SECOND FORM. 'bulk': how many values and letters a reading holds, each counted each time it is reached (what is shared counts as often as it is met; a slice's spare places count too). A statement '..UptoSaid' is the law's where the arguments, and the package variables that the reading takes, are together of bulk at most 1048576: NARROWER than '..Said'. Prove '..Said' where nothing that the law and all that it calls make is longer than what came in: it says more and counts as full. Else prove '..UptoSaid'. A law counts once. -/
mutual
def uptoBulk {H : Type} : DataW H → Nat
  | .lit (.string bytes) => bytes.length + 1
  | .lit _ => 1
  | .nil => 1
  | .ptr d => uptoBulk d + 1
  | .slice elems spare => uptoBulkAll elems + uptoBulkAll spare + 1
  | .agg parts => uptoBulkAll parts + 1
  | .iface _ d => uptoBulk d + 1
  | .map entries => uptoBulkEntries entries + 1
  | .held _ => 1
def uptoBulkAll {H : Type} : List (DataW H) → Nat
  | [] => 0
  | d :: r => uptoBulk d + uptoBulkAll r
def uptoBulkEntries {H : Type} : List (Lit × DataW H) → Nat
  | [] => 0
  | x :: r => uptoBulkEntry x + uptoBulkEntries r
def uptoBulkEntry {H : Type} : Lit × DataW H → Nat
  | (.string bytes, d) => bytes.length + uptoBulk d + 1
  | (_, d) => uptoBulk d + 1
 end
def uptoSmall : (H : Type) → List (DataW H) → Bool := fun _ ds => decide (uptoBulkAll ds ≤ 1048576)
def OpenSpec.upto (s : _root_.Go.ChangeSpec) : _root_.Go.OpenSpec := { _root_.Go.OpenSpec.ofChange s with cond := some uptoSmall }

/-- 'laws.FnSetups', WHERE WHAT IT READS IS OF BULK AT MOST 1048576: true; the input reads as it did. -/
def fnSetupsUptoRow : OpenClaim := { program := "ytlfkjjnhlkaipaa", sum := "cb4cf9098db2704f204f8ee32a88239eebe874606e0c981ac9a34b07a2aa16ce", func := "loop.example/g00306/laws.FnSetups", spec := "fnSetups", apart := false, narrowed := true }
def FnSetupsUptoSaid : Prop := fnSetupsUptoRow.holds Try.pinned (OpenSpec.upto fnSetupsSpec)

/-- 'laws.FnExactImageRead', WHERE WHAT IT READS IS OF BULK AT MOST 1048576: true; the input reads as it did. -/
def fnExactImageReadUptoRow : OpenClaim := { program := "ytlfkjjnhlkaipaa", sum := "cb4cf9098db2704f204f8ee32a88239eebe874606e0c981ac9a34b07a2aa16ce", func := "loop.example/g00306/laws.FnExactImageRead", spec := "fnExactImageRead", unfollowed := true, recurses := true, apart := false, narrowed := true }
def FnExactImageReadUptoSaid : Prop := fnExactImageReadUptoRow.holds Try.pinned (OpenSpec.upto fnExactImageReadSpec)

/-- 'laws.FnExactSetupOk', WHERE WHAT IT READS IS OF BULK AT MOST 1048576: true; the input reads as it did. -/
def fnExactSetupOkUptoRow : OpenClaim := { program := "ytlfkjjnhlkaipaa", sum := "cb4cf9098db2704f204f8ee32a88239eebe874606e0c981ac9a34b07a2aa16ce", func := "loop.example/g00306/laws.FnExactSetupOk", spec := "fnExactSetupOk", apart := false, narrowed := true }
def FnExactSetupOkUptoSaid : Prop := fnExactSetupOkUptoRow.holds Try.pinned (OpenSpec.upto fnExactSetupOkSpec)

end Rows
end Go.Proofs.Ytlfkjjnhlkaipaa
