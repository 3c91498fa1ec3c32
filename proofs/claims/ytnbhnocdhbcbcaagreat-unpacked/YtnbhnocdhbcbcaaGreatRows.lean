/-
  No cell of these rows narrows 'for every input' (looked for: loops, veiled, ifaces, maps, wideKeys, modest, calm, conditions, laid).
  DERIVED. THE GIVEN ROWS OF THIS SEAT. 3 by the template 'for every input the law returns true; each argument reads behind the call as it read before'; 0 by the template 'total and deterministic' (their statements: YtnbhnocdhbcbcaaGreatTotals.lean).
  GIVEN WITH THE SEED: the statements are not yours to turn. If you find one false, say at which input.
  Laid BY PROGRAM, IN A SANDBOX (cutbox-rows.mjs): the forced cells as the released guide's own fill.sh prints them over the translation a443050fe86d8037… (all of the seat's roots in one cut). By AI agents, Wed Nov 11 2026. No macro, syntax, notation, axiom, sorry.
-/
import Derived.Test.YtnbhnocdhbcbcaaGreatChecked
import GoSem.Claim
import GoSem.ClaimJoined
import GoSem.ClaimMapViews
import Derived.JoinedTies
import Derived.KernelRfl
namespace Go.Proofs.YtnbhnocdhbcbcaaGreat
/- THE CELL 'sum', in the pinned program and in every row, IS THE sha256 OF THE DUMP (.gsa) THAT YtnbhnocdhbcbcaaGreatProg.lean LOADS. Nothing in Lean hashes anything: it is a label: what it is worth is what the hold of that sum in a sandbox is worth. -/
noncomputable def Tryz.pinned : Pinned := { name := "ytnbhnocdhbcbcaagreat", sum := "a443050fe86d80371e70d93af955d9736aeebd3ac6f766e4522197c83121c18b", checked := Tryz.checked }
namespace Rows
def none {H : Type} : Left H := { results := [], args := [] }

/-- 'metaprooflaw.Verdicts': WHATEVER THE INPUT: true; the input reads as it did. -/
def verdictsSpec : ChangeSpec := { name := "verdicts", fn := fun _ => fun
  | [d] => { results := [.lit (.bool true)], args := [d] }
  | _ => none }
def verdictsRow : OpenClaim := { program := "ytnbhnocdhbcbcaagreat", sum := "a443050fe86d80371e70d93af955d9736aeebd3ac6f766e4522197c83121c18b", func := "metaproof/metaprooflaw.Verdicts", spec := "verdicts", recurses := true, apart := false }
def VerdictsSaid : Prop := verdictsRow.holds Tryz.pinned (OpenSpec.ofChange verdictsSpec)

/-- ITS FALSE NEIGHBOUR: 'it returns false'. Refute it at one input. -/
def verdictsWrong : ChangeSpec := { name := "verdicts", fn := fun _ => fun
  | [d] => { results := [.lit (.bool false)], args := [d] }
  | _ => none }
def VerdictsWrongFalsely : Prop := verdictsRow.holds Tryz.pinned (OpenSpec.ofChange verdictsWrong)

/-- 'metaprooflaw.Needed': WHATEVER THE INPUT: true; the input reads as it did. -/
def neededSpec : ChangeSpec := { name := "needed", fn := fun _ => fun
  | [d] => { results := [.lit (.bool true)], args := [d] }
  | _ => none }
def neededRow : OpenClaim := { program := "ytnbhnocdhbcbcaagreat", sum := "a443050fe86d80371e70d93af955d9736aeebd3ac6f766e4522197c83121c18b", func := "metaproof/metaprooflaw.Needed", spec := "needed", recurses := true, apart := false }
def NeededSaid : Prop := neededRow.holds Tryz.pinned (OpenSpec.ofChange neededSpec)

/-- ITS FALSE NEIGHBOUR: 'it returns false'. Refute it at one input. -/
def neededWrong : ChangeSpec := { name := "needed", fn := fun _ => fun
  | [d] => { results := [.lit (.bool false)], args := [d] }
  | _ => none }
def NeededWrongFalsely : Prop := neededRow.holds Tryz.pinned (OpenSpec.ofChange neededWrong)

/-- 'metaprooflaw.Unpacked': WHATEVER THE INPUT: true; the input reads as it did. -/
def unpackedSpec : ChangeSpec := { name := "unpacked", fn := fun _ => fun
  | [d] => { results := [.lit (.bool true)], args := [d] }
  | _ => none }
def unpackedRow : OpenClaim := { program := "ytnbhnocdhbcbcaagreat", sum := "a443050fe86d80371e70d93af955d9736aeebd3ac6f766e4522197c83121c18b", func := "metaproof/metaprooflaw.Unpacked", spec := "unpacked", recurses := true, apart := false }
def UnpackedSaid : Prop := unpackedRow.holds Tryz.pinned (OpenSpec.ofChange unpackedSpec)

/-- ITS FALSE NEIGHBOUR: 'it returns false'. Refute it at one input. -/
def unpackedWrong : ChangeSpec := { name := "unpacked", fn := fun _ => fun
  | [d] => { results := [.lit (.bool false)], args := [d] }
  | _ => none }
def UnpackedWrongFalsely : Prop := unpackedRow.holds Tryz.pinned (OpenSpec.ofChange unpackedWrong)

/- THE SECOND FORM. 'bulk': how many values and letters a reading holds, each counted each time it is reached (what is shared counts as often as it is met; a slice's spare places count too). A statement '..UptoSaid' is the law's where the arguments, and the package variables that the reading takes, are together of bulk at most 1048576: NARROWER than '..Said'. Prove '..Said' where nothing that the law and all that it calls make is longer than what came in: it says more and counts as full. Else prove '..UptoSaid'. A law counts once. -/
mutual
def uptoBulk {H : Type} : DataW H → Nat
  | .lit (.string bytes) => bytes.length + 1
  | .lit _ => 1
  | .nil => 1
  | .ptr d => uptoBulk d + 1
  | .slice elems spare => uptoBulkAll elems + uptoBulkAll spare + 1
  | .agg parts => uptoBulkAll parts + 1
  | .iface _ d => uptoBulk d + 1
  | .map entries => uptoBulkEntries entries + 1
  | .held _ => 1
def uptoBulkAll {H : Type} : List (DataW H) → Nat
  | [] => 0
  | d :: r => uptoBulk d + uptoBulkAll r
def uptoBulkEntries {H : Type} : List (Lit × DataW H) → Nat
  | [] => 0
  | x :: r => uptoBulkEntry x + uptoBulkEntries r
def uptoBulkEntry {H : Type} : Lit × DataW H → Nat
  | (.string bytes, d) => bytes.length + uptoBulk d + 1
  | (_, d) => uptoBulk d + 1
 end
def uptoSmall : (H : Type) → List (DataW H) → Bool := fun _ ds => decide (uptoBulkAll ds ≤ 1048576)
def OpenSpec.upto (s : _root_.Go.ChangeSpec) : _root_.Go.OpenSpec := { _root_.Go.OpenSpec.ofChange s with cond := some uptoSmall }

/-- 'metaprooflaw.Verdicts', WHERE WHAT IT READS IS OF BULK AT MOST 1048576: true; the input reads as it did. -/
def verdictsUptoRow : OpenClaim := { program := "ytnbhnocdhbcbcaagreat", sum := "a443050fe86d80371e70d93af955d9736aeebd3ac6f766e4522197c83121c18b", func := "metaproof/metaprooflaw.Verdicts", spec := "verdicts", recurses := true, apart := false, narrowed := true }
def VerdictsUptoSaid : Prop := verdictsUptoRow.holds Tryz.pinned (OpenSpec.upto verdictsSpec)

/-- 'metaprooflaw.Needed', WHERE WHAT IT READS IS OF BULK AT MOST 1048576: true; the input reads as it did. -/
def neededUptoRow : OpenClaim := { program := "ytnbhnocdhbcbcaagreat", sum := "a443050fe86d80371e70d93af955d9736aeebd3ac6f766e4522197c83121c18b", func := "metaproof/metaprooflaw.Needed", spec := "needed", recurses := true, apart := false, narrowed := true }
def NeededUptoSaid : Prop := neededUptoRow.holds Tryz.pinned (OpenSpec.upto neededSpec)

/-- 'metaprooflaw.Unpacked', WHERE WHAT IT READS IS OF BULK AT MOST 1048576: true; the input reads as it did. -/
def unpackedUptoRow : OpenClaim := { program := "ytnbhnocdhbcbcaagreat", sum := "a443050fe86d80371e70d93af955d9736aeebd3ac6f766e4522197c83121c18b", func := "metaproof/metaprooflaw.Unpacked", spec := "unpacked", recurses := true, apart := false, narrowed := true }
def UnpackedUptoSaid : Prop := unpackedUptoRow.holds Tryz.pinned (OpenSpec.upto unpackedSpec)

end Rows
end Go.Proofs.YtnbhnocdhbcbcaaGreat
