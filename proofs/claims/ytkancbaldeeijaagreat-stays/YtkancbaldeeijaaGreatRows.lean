/-
  No cell of these rows narrows 'for every input' (looked for: loops, veiled, ifaces, maps, wideKeys, modest, calm, conditions, laid).
  DERIVED. THE GIVEN ROWS OF THIS SEAT. 5 by the template 'for every input the law returns true; each argument reads behind the call as it read before'; 0 by the template 'total and deterministic' (their statements: YtkancbaldeeijaaGreatTotals.lean).
  GIVEN WITH THE SEED: the statements are not yours to turn. If you find one false, say at which input.
  Laid BY PROGRAM, IN A SANDBOX (cutbox-rows.mjs): the forced cells as the released guide's own fill.sh prints them over the translation 2468da4579c2baac… (all of the seat's roots in one cut). By AI agents, Wed Nov 11 2026. No macro, syntax, notation, axiom, sorry.
-/
import Derived.Test.YtkancbaldeeijaaGreatChecked
import GoSem.Claim
import GoSem.ClaimJoined
import GoSem.ClaimMapViews
import Derived.JoinedTies
import Derived.KernelRfl
namespace Go.Proofs.YtkancbaldeeijaaGreat
/- THE CELL 'sum', in the pinned program and in every row, IS THE sha256 OF THE DUMP (.gsa) THAT YtkancbaldeeijaaGreatProg.lean LOADS. Nothing in Lean hashes anything: it is a label: what it is worth is what the hold of that sum in a sandbox is worth. -/
noncomputable def Tryz.pinned : Pinned := { name := "ytkancbaldeeijaagreat", sum := "2468da4579c2baac3b7a1be881ef69f3ea37a02279dcd8585c7d88b1bd2c73b1", checked := Tryz.checked }
namespace Rows
def none {H : Type} : Left H := { results := [], args := [] }

/-- 'metaproofkeep.Stays': WHATEVER THE INPUT: true; the input reads as it did. -/
def staysSpec : ChangeSpec := { name := "stays", fn := fun _ => fun
  | [d1, d2, d3] => { results := [.lit (.bool true)], args := [d1, d2, d3] }
  | _ => none }
def staysRow : OpenClaim := { program := "ytkancbaldeeijaagreat", sum := "2468da4579c2baac3b7a1be881ef69f3ea37a02279dcd8585c7d88b1bd2c73b1", func := "metaproof/metaproofkeep.Stays", spec := "stays", recurses := true, apart := false }
def StaysSaid : Prop := staysRow.holds Tryz.pinned (OpenSpec.ofChange staysSpec)

/-- ITS FALSE NEIGHBOUR: 'it returns false'. Refute it at one input. -/
def staysWrong : ChangeSpec := { name := "stays", fn := fun _ => fun
  | [d1, d2, d3] => { results := [.lit (.bool false)], args := [d1, d2, d3] }
  | _ => none }
def StaysWrongFalsely : Prop := staysRow.holds Tryz.pinned (OpenSpec.ofChange staysWrong)

/-- 'metaproofkeep.Placed': WHATEVER THE INPUT: true; the input reads as it did. -/
def placedSpec : ChangeSpec := { name := "placed", fn := fun _ => fun
  | [d1, d2] => { results := [.lit (.bool true)], args := [d1, d2] }
  | _ => none }
def placedRow : OpenClaim := { program := "ytkancbaldeeijaagreat", sum := "2468da4579c2baac3b7a1be881ef69f3ea37a02279dcd8585c7d88b1bd2c73b1", func := "metaproof/metaproofkeep.Placed", spec := "placed", recurses := true, apart := false }
def PlacedSaid : Prop := placedRow.holds Tryz.pinned (OpenSpec.ofChange placedSpec)

/-- ITS FALSE NEIGHBOUR: 'it returns false'. Refute it at one input. -/
def placedWrong : ChangeSpec := { name := "placed", fn := fun _ => fun
  | [d1, d2] => { results := [.lit (.bool false)], args := [d1, d2] }
  | _ => none }
def PlacedWrongFalsely : Prop := placedRow.holds Tryz.pinned (OpenSpec.ofChange placedWrong)

/-- 'metaproofkeep.Beside': WHATEVER THE INPUT: true; the input reads as it did. -/
def besideSpec : ChangeSpec := { name := "beside", fn := fun _ => fun
  | [d1, d2, d3] => { results := [.lit (.bool true)], args := [d1, d2, d3] }
  | _ => none }
def besideRow : OpenClaim := { program := "ytkancbaldeeijaagreat", sum := "2468da4579c2baac3b7a1be881ef69f3ea37a02279dcd8585c7d88b1bd2c73b1", func := "metaproof/metaproofkeep.Beside", spec := "beside", recurses := true, apart := false }
def BesideSaid : Prop := besideRow.holds Tryz.pinned (OpenSpec.ofChange besideSpec)

/-- ITS FALSE NEIGHBOUR: 'it returns false'. Refute it at one input. -/
def besideWrong : ChangeSpec := { name := "beside", fn := fun _ => fun
  | [d1, d2, d3] => { results := [.lit (.bool false)], args := [d1, d2, d3] }
  | _ => none }
def BesideWrongFalsely : Prop := besideRow.holds Tryz.pinned (OpenSpec.ofChange besideWrong)

/-- 'metaproofkeep.Grown': WHATEVER THE INPUT: true; the input reads as it did. -/
def grownSpec : ChangeSpec := { name := "grown", fn := fun _ => fun
  | [d] => { results := [.lit (.bool true)], args := [d] }
  | _ => none }
def grownRow : OpenClaim := { program := "ytkancbaldeeijaagreat", sum := "2468da4579c2baac3b7a1be881ef69f3ea37a02279dcd8585c7d88b1bd2c73b1", func := "metaproof/metaproofkeep.Grown", spec := "grown", recurses := true, apart := false }
def GrownSaid : Prop := grownRow.holds Tryz.pinned (OpenSpec.ofChange grownSpec)

/-- ITS FALSE NEIGHBOUR: 'it returns false'. Refute it at one input. -/
def grownWrong : ChangeSpec := { name := "grown", fn := fun _ => fun
  | [d] => { results := [.lit (.bool false)], args := [d] }
  | _ => none }
def GrownWrongFalsely : Prop := grownRow.holds Tryz.pinned (OpenSpec.ofChange grownWrong)

/-- 'metaproofkeep.Cut': WHATEVER THE INPUT: true; the input reads as it did. -/
def cutSpec : ChangeSpec := { name := "cut", fn := fun _ => fun
  | [d1, d2] => { results := [.lit (.bool true)], args := [d1, d2] }
  | _ => none }
def cutRow : OpenClaim := { program := "ytkancbaldeeijaagreat", sum := "2468da4579c2baac3b7a1be881ef69f3ea37a02279dcd8585c7d88b1bd2c73b1", func := "metaproof/metaproofkeep.Cut", spec := "cut", recurses := true, apart := false }
def CutSaid : Prop := cutRow.holds Tryz.pinned (OpenSpec.ofChange cutSpec)

/-- ITS FALSE NEIGHBOUR: 'it returns false'. Refute it at one input. -/
def cutWrong : ChangeSpec := { name := "cut", fn := fun _ => fun
  | [d1, d2] => { results := [.lit (.bool false)], args := [d1, d2] }
  | _ => none }
def CutWrongFalsely : Prop := cutRow.holds Tryz.pinned (OpenSpec.ofChange cutWrong)

/- THE SECOND FORM. 'bulk': how many values and letters a reading holds, each counted each time it is reached (what is shared counts as often as it is met; a slice's spare places count too). A statement '..UptoSaid' is the law's where the arguments, and the package variables that the reading takes, are together of bulk at most 1048576: NARROWER than '..Said'. Prove '..Said' where nothing that the law and all that it calls make is longer than what came in: it says more and counts as full. Else prove '..UptoSaid'. A law counts once. -/
mutual
def uptoBulk {H : Type} : DataW H → Nat
  | .lit (.string bytes) => bytes.length + 1
  | .lit _ => 1
  | .nil => 1
  | .ptr d => uptoBulk d + 1
  | .slice elems spare => uptoBulkAll elems + uptoBulkAll spare + 1
  | .agg parts => uptoBulkAll parts + 1
  | .iface _ d => uptoBulk d + 1
  | .map entries => uptoBulkEntries entries + 1
  | .held _ => 1
def uptoBulkAll {H : Type} : List (DataW H) → Nat
  | [] => 0
  | d :: r => uptoBulk d + uptoBulkAll r
def uptoBulkEntries {H : Type} : List (Lit × DataW H) → Nat
  | [] => 0
  | x :: r => uptoBulkEntry x + uptoBulkEntries r
def uptoBulkEntry {H : Type} : Lit × DataW H → Nat
  | (.string bytes, d) => bytes.length + uptoBulk d + 1
  | (_, d) => uptoBulk d + 1
 end
def uptoSmall : (H : Type) → List (DataW H) → Bool := fun _ ds => decide (uptoBulkAll ds ≤ 1048576)
def OpenSpec.upto (s : _root_.Go.ChangeSpec) : _root_.Go.OpenSpec := { _root_.Go.OpenSpec.ofChange s with cond := some uptoSmall }

/-- 'metaproofkeep.Stays', WHERE WHAT IT READS IS OF BULK AT MOST 1048576: true; the input reads as it did. -/
def staysUptoRow : OpenClaim := { program := "ytkancbaldeeijaagreat", sum := "2468da4579c2baac3b7a1be881ef69f3ea37a02279dcd8585c7d88b1bd2c73b1", func := "metaproof/metaproofkeep.Stays", spec := "stays", recurses := true, apart := false, narrowed := true }
def StaysUptoSaid : Prop := staysUptoRow.holds Tryz.pinned (OpenSpec.upto staysSpec)

/-- 'metaproofkeep.Placed', WHERE WHAT IT READS IS OF BULK AT MOST 1048576: true; the input reads as it did. -/
def placedUptoRow : OpenClaim := { program := "ytkancbaldeeijaagreat", sum := "2468da4579c2baac3b7a1be881ef69f3ea37a02279dcd8585c7d88b1bd2c73b1", func := "metaproof/metaproofkeep.Placed", spec := "placed", recurses := true, apart := false, narrowed := true }
def PlacedUptoSaid : Prop := placedUptoRow.holds Tryz.pinned (OpenSpec.upto placedSpec)

/-- 'metaproofkeep.Beside', WHERE WHAT IT READS IS OF BULK AT MOST 1048576: true; the input reads as it did. -/
def besideUptoRow : OpenClaim := { program := "ytkancbaldeeijaagreat", sum := "2468da4579c2baac3b7a1be881ef69f3ea37a02279dcd8585c7d88b1bd2c73b1", func := "metaproof/metaproofkeep.Beside", spec := "beside", recurses := true, apart := false, narrowed := true }
def BesideUptoSaid : Prop := besideUptoRow.holds Tryz.pinned (OpenSpec.upto besideSpec)

/-- 'metaproofkeep.Grown', WHERE WHAT IT READS IS OF BULK AT MOST 1048576: true; the input reads as it did. -/
def grownUptoRow : OpenClaim := { program := "ytkancbaldeeijaagreat", sum := "2468da4579c2baac3b7a1be881ef69f3ea37a02279dcd8585c7d88b1bd2c73b1", func := "metaproof/metaproofkeep.Grown", spec := "grown", recurses := true, apart := false, narrowed := true }
def GrownUptoSaid : Prop := grownUptoRow.holds Tryz.pinned (OpenSpec.upto grownSpec)

/-- 'metaproofkeep.Cut', WHERE WHAT IT READS IS OF BULK AT MOST 1048576: true; the input reads as it did. -/
def cutUptoRow : OpenClaim := { program := "ytkancbaldeeijaagreat", sum := "2468da4579c2baac3b7a1be881ef69f3ea37a02279dcd8585c7d88b1bd2c73b1", func := "metaproof/metaproofkeep.Cut", spec := "cut", recurses := true, apart := false, narrowed := true }
def CutUptoSaid : Prop := cutUptoRow.holds Tryz.pinned (OpenSpec.upto cutSpec)

end Rows
end Go.Proofs.YtkancbaldeeijaaGreat
