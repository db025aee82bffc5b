/-
  No cell of these rows narrows 'for every input' (looked for: loops, veiled, ifaces, maps, wideKeys, modest, calm, conditions, laid).
  DERIVED. THE GIVEN ROWS OF THIS SEAT. 5 by the template 'for every input the law returns true; each argument reads behind the call as it read before'; 0 by the template 'total and deterministic' (their statements: YtgjaennedihckaaGreatTotals.lean).
  GIVEN WITH THE SEED: the statements are not yours to turn. If you find one false, say at which input.
  Laid BY PROGRAM, IN A SANDBOX (cutbox-rows.mjs): the forced cells as the released guide's own fill.sh prints them over the translation 08b2014ec1b5ea7a… (all of the seat's roots in one cut). By AI agents, Wed Nov 11 2026. No macro, syntax, notation, axiom, sorry.
-/
import Derived.Test.YtgjaennedihckaaGreatChecked
import GoSem.Claim
import GoSem.ClaimJoined
import GoSem.ClaimMapViews
import Derived.JoinedTies
import Derived.KernelRfl
namespace Go.Proofs.YtgjaennedihckaaGreat
/- THE CELL 'sum', in the pinned program and in every row, IS THE sha256 OF THE DUMP (.gsa) THAT YtgjaennedihckaaGreatProg.lean LOADS. Nothing in Lean hashes anything: it is a label: what it is worth is what the hold of that sum in a sandbox is worth. -/
noncomputable def Tryz.pinned : Pinned := { name := "ytgjaennedihckaagreat", sum := "08b2014ec1b5ea7ae0053d46d107bbe4d3f9b5c2c237ab231005e5fd9116cd92", checked := Tryz.checked }
namespace Rows
def none {H : Type} : Left H := { results := [], args := [] }

/-- 'laws.FnExactLinkEnergy': WHATEVER THE INPUT: true; the input reads as it did. -/
def fnExactLinkEnergySpec : ChangeSpec := { name := "fnExactLinkEnergy", fn := fun _ => fun
  | [d1, d2, d3] => { results := [.lit (.bool true)], args := [d1, d2, d3] }
  | _ => none }
def fnExactLinkEnergyRow : OpenClaim := { program := "ytgjaennedihckaagreat", sum := "08b2014ec1b5ea7ae0053d46d107bbe4d3f9b5c2c237ab231005e5fd9116cd92", func := "loop.example/g00810/laws.FnExactLinkEnergy", spec := "fnExactLinkEnergy", inPlace := ["math/bits.Add64"], named := ["math/bits.divideError", "math/bits.overflowError"], apart := false }
def FnExactLinkEnergySaid : Prop := fnExactLinkEnergyRow.holds Tryz.pinned (OpenSpec.ofChange fnExactLinkEnergySpec)

/-- ITS FALSE NEIGHBOUR: 'it returns false'. Refute it at one input. -/
def fnExactLinkEnergyWrong : ChangeSpec := { name := "fnExactLinkEnergy", fn := fun _ => fun
  | [d1, d2, d3] => { results := [.lit (.bool false)], args := [d1, d2, d3] }
  | _ => none }
def FnExactLinkEnergyWrongFalsely : Prop := fnExactLinkEnergyRow.holds Tryz.pinned (OpenSpec.ofChange fnExactLinkEnergyWrong)

/-- 'laws.FnExactNodesOf': WHATEVER THE INPUT: true; the input reads as it did. -/
def fnExactNodesOfSpec : ChangeSpec := { name := "fnExactNodesOf", fn := fun _ => fun
  | [d] => { results := [.lit (.bool true)], args := [d] }
  | _ => none }
def fnExactNodesOfRow : OpenClaim := { program := "ytgjaennedihckaagreat", sum := "08b2014ec1b5ea7ae0053d46d107bbe4d3f9b5c2c237ab231005e5fd9116cd92", func := "loop.example/g00810/laws.FnExactNodesOf", spec := "fnExactNodesOf", inPlace := ["math/bits.Add64"], unfollowed := true, recurses := true, named := ["math/bits.divideError", "math/bits.overflowError"], apart := false }
def FnExactNodesOfSaid : Prop := fnExactNodesOfRow.holds Tryz.pinned (OpenSpec.ofChange fnExactNodesOfSpec)

/-- ITS FALSE NEIGHBOUR: 'it returns false'. Refute it at one input. -/
def fnExactNodesOfWrong : ChangeSpec := { name := "fnExactNodesOf", fn := fun _ => fun
  | [d] => { results := [.lit (.bool false)], args := [d] }
  | _ => none }
def FnExactNodesOfWrongFalsely : Prop := fnExactNodesOfRow.holds Tryz.pinned (OpenSpec.ofChange fnExactNodesOfWrong)

/-- 'laws.FnExactComponentOf': WHATEVER THE INPUT: true; the input reads as it did. -/
def fnExactComponentOfSpec : ChangeSpec := { name := "fnExactComponentOf", fn := fun _ => fun
  | [d1, d2] => { results := [.lit (.bool true)], args := [d1, d2] }
  | _ => none }
def fnExactComponentOfRow : OpenClaim := { program := "ytgjaennedihckaagreat", sum := "08b2014ec1b5ea7ae0053d46d107bbe4d3f9b5c2c237ab231005e5fd9116cd92", func := "loop.example/g00810/laws.FnExactComponentOf", spec := "fnExactComponentOf", inPlace := ["math/bits.Add64"], unfollowed := true, recurses := true, named := ["math/bits.divideError", "math/bits.overflowError"], apart := false }
def FnExactComponentOfSaid : Prop := fnExactComponentOfRow.holds Tryz.pinned (OpenSpec.ofChange fnExactComponentOfSpec)

/-- ITS FALSE NEIGHBOUR: 'it returns false'. Refute it at one input. -/
def fnExactComponentOfWrong : ChangeSpec := { name := "fnExactComponentOf", fn := fun _ => fun
  | [d1, d2] => { results := [.lit (.bool false)], args := [d1, d2] }
  | _ => none }
def FnExactComponentOfWrongFalsely : Prop := fnExactComponentOfRow.holds Tryz.pinned (OpenSpec.ofChange fnExactComponentOfWrong)

/-- 'laws.FnExactIsGrounded': WHATEVER THE INPUT: true; the input reads as it did. -/
def fnExactIsGroundedSpec : ChangeSpec := { name := "fnExactIsGrounded", fn := fun _ => fun
  | [d] => { results := [.lit (.bool true)], args := [d] }
  | _ => none }
def fnExactIsGroundedRow : OpenClaim := { program := "ytgjaennedihckaagreat", sum := "08b2014ec1b5ea7ae0053d46d107bbe4d3f9b5c2c237ab231005e5fd9116cd92", func := "loop.example/g00810/laws.FnExactIsGrounded", spec := "fnExactIsGrounded", inPlace := ["math/bits.Add64"], unfollowed := true, recurses := true, named := ["math/bits.divideError", "math/bits.overflowError"], apart := false }
def FnExactIsGroundedSaid : Prop := fnExactIsGroundedRow.holds Tryz.pinned (OpenSpec.ofChange fnExactIsGroundedSpec)

/-- ITS FALSE NEIGHBOUR: 'it returns false'. Refute it at one input. -/
def fnExactIsGroundedWrong : ChangeSpec := { name := "fnExactIsGrounded", fn := fun _ => fun
  | [d] => { results := [.lit (.bool false)], args := [d] }
  | _ => none }
def FnExactIsGroundedWrongFalsely : Prop := fnExactIsGroundedRow.holds Tryz.pinned (OpenSpec.ofChange fnExactIsGroundedWrong)

/-- 'laws.FnExactBridges': WHATEVER THE INPUT: true; the input reads as it did. -/
def fnExactBridgesSpec : ChangeSpec := { name := "fnExactBridges", fn := fun _ => fun
  | [d] => { results := [.lit (.bool true)], args := [d] }
  | _ => none }
def fnExactBridgesRow : OpenClaim := { program := "ytgjaennedihckaagreat", sum := "08b2014ec1b5ea7ae0053d46d107bbe4d3f9b5c2c237ab231005e5fd9116cd92", func := "loop.example/g00810/laws.FnExactBridges", spec := "fnExactBridges", inPlace := ["math/bits.Add64"], unfollowed := true, recurses := true, named := ["math/bits.divideError", "math/bits.overflowError"], apart := false }
def FnExactBridgesSaid : Prop := fnExactBridgesRow.holds Tryz.pinned (OpenSpec.ofChange fnExactBridgesSpec)

/-- ITS FALSE NEIGHBOUR: 'it returns false'. Refute it at one input. -/
def fnExactBridgesWrong : ChangeSpec := { name := "fnExactBridges", fn := fun _ => fun
  | [d] => { results := [.lit (.bool false)], args := [d] }
  | _ => none }
def FnExactBridgesWrongFalsely : Prop := fnExactBridgesRow.holds Tryz.pinned (OpenSpec.ofChange fnExactBridgesWrong)

/- THE SECOND FORM. 'bulk': how many values and letters a reading holds, each counted each time it is reached (what is shared counts as often as it is met; a slice's spare places count too). A statement '..UptoSaid' is the law's where the arguments, and the package variables that the reading takes, are together of bulk at most 1048576: NARROWER than '..Said'. Prove '..Said' where nothing that the law and all that it calls make is longer than what came in: it says more and counts as full. Else prove '..UptoSaid'. A law counts once. -/
mutual
def uptoBulk {H : Type} : DataW H → Nat
  | .lit (.string bytes) => bytes.length + 1
  | .lit _ => 1
  | .nil => 1
  | .ptr d => uptoBulk d + 1
  | .slice elems spare => uptoBulkAll elems + uptoBulkAll spare + 1
  | .agg parts => uptoBulkAll parts + 1
  | .iface _ d => uptoBulk d + 1
  | .map entries => uptoBulkEntries entries + 1
  | .held _ => 1
def uptoBulkAll {H : Type} : List (DataW H) → Nat
  | [] => 0
  | d :: r => uptoBulk d + uptoBulkAll r
def uptoBulkEntries {H : Type} : List (Lit × DataW H) → Nat
  | [] => 0
  | x :: r => uptoBulkEntry x + uptoBulkEntries r
def uptoBulkEntry {H : Type} : Lit × DataW H → Nat
  | (.string bytes, d) => bytes.length + uptoBulk d + 1
  | (_, d) => uptoBulk d + 1
 end
def uptoSmall : (H : Type) → List (DataW H) → Bool := fun _ ds => decide (uptoBulkAll ds ≤ 1048576)
def OpenSpec.upto (s : _root_.Go.ChangeSpec) : _root_.Go.OpenSpec := { _root_.Go.OpenSpec.ofChange s with cond := some uptoSmall }

/-- 'laws.FnExactLinkEnergy', WHERE WHAT IT READS IS OF BULK AT MOST 1048576: true; the input reads as it did. -/
def fnExactLinkEnergyUptoRow : OpenClaim := { program := "ytgjaennedihckaagreat", sum := "08b2014ec1b5ea7ae0053d46d107bbe4d3f9b5c2c237ab231005e5fd9116cd92", func := "loop.example/g00810/laws.FnExactLinkEnergy", spec := "fnExactLinkEnergy", inPlace := ["math/bits.Add64"], named := ["math/bits.divideError", "math/bits.overflowError"], apart := false, narrowed := true }
def FnExactLinkEnergyUptoSaid : Prop := fnExactLinkEnergyUptoRow.holds Tryz.pinned (OpenSpec.upto fnExactLinkEnergySpec)

/-- 'laws.FnExactNodesOf', WHERE WHAT IT READS IS OF BULK AT MOST 1048576: true; the input reads as it did. -/
def fnExactNodesOfUptoRow : OpenClaim := { program := "ytgjaennedihckaagreat", sum := "08b2014ec1b5ea7ae0053d46d107bbe4d3f9b5c2c237ab231005e5fd9116cd92", func := "loop.example/g00810/laws.FnExactNodesOf", spec := "fnExactNodesOf", inPlace := ["math/bits.Add64"], unfollowed := true, recurses := true, named := ["math/bits.divideError", "math/bits.overflowError"], apart := false, narrowed := true }
def FnExactNodesOfUptoSaid : Prop := fnExactNodesOfUptoRow.holds Tryz.pinned (OpenSpec.upto fnExactNodesOfSpec)

/-- 'laws.FnExactComponentOf', WHERE WHAT IT READS IS OF BULK AT MOST 1048576: true; the input reads as it did. -/
def fnExactComponentOfUptoRow : OpenClaim := { program := "ytgjaennedihckaagreat", sum := "08b2014ec1b5ea7ae0053d46d107bbe4d3f9b5c2c237ab231005e5fd9116cd92", func := "loop.example/g00810/laws.FnExactComponentOf", spec := "fnExactComponentOf", inPlace := ["math/bits.Add64"], unfollowed := true, recurses := true, named := ["math/bits.divideError", "math/bits.overflowError"], apart := false, narrowed := true }
def FnExactComponentOfUptoSaid : Prop := fnExactComponentOfUptoRow.holds Tryz.pinned (OpenSpec.upto fnExactComponentOfSpec)

/-- 'laws.FnExactIsGrounded', WHERE WHAT IT READS IS OF BULK AT MOST 1048576: true; the input reads as it did. -/
def fnExactIsGroundedUptoRow : OpenClaim := { program := "ytgjaennedihckaagreat", sum := "08b2014ec1b5ea7ae0053d46d107bbe4d3f9b5c2c237ab231005e5fd9116cd92", func := "loop.example/g00810/laws.FnExactIsGrounded", spec := "fnExactIsGrounded", inPlace := ["math/bits.Add64"], unfollowed := true, recurses := true, named := ["math/bits.divideError", "math/bits.overflowError"], apart := false, narrowed := true }
def FnExactIsGroundedUptoSaid : Prop := fnExactIsGroundedUptoRow.holds Tryz.pinned (OpenSpec.upto fnExactIsGroundedSpec)

/-- 'laws.FnExactBridges', WHERE WHAT IT READS IS OF BULK AT MOST 1048576: true; the input reads as it did. -/
def fnExactBridgesUptoRow : OpenClaim := { program := "ytgjaennedihckaagreat", sum := "08b2014ec1b5ea7ae0053d46d107bbe4d3f9b5c2c237ab231005e5fd9116cd92", func := "loop.example/g00810/laws.FnExactBridges", spec := "fnExactBridges", inPlace := ["math/bits.Add64"], unfollowed := true, recurses := true, named := ["math/bits.divideError", "math/bits.overflowError"], apart := false, narrowed := true }
def FnExactBridgesUptoSaid : Prop := fnExactBridgesUptoRow.holds Tryz.pinned (OpenSpec.upto fnExactBridgesSpec)

end Rows
end Go.Proofs.YtgjaennedihckaaGreat
