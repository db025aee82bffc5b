/-
  No cell of these rows narrows 'for every input' (looked for: loops, veiled, ifaces, maps, wideKeys, modest, calm, conditions, laid).
  DERIVED. THE GIVEN ROWS OF THIS SEAT. 4 by the template 'for every input the law returns true; each argument reads behind the call as it read before'; 0 by the template 'total and deterministic' (their statements: YtkhkkaobooednaaTotals.lean).
  GIVEN WITH THE SEED: the statements are not yours to turn. If you find one false, say at which input.
  Laid BY PROGRAM, IN A SANDBOX (cutbox-rows.mjs): the forced cells as the released guide's own fill.sh prints them over the translation 1cb98c72ca3b573e… (all of the seat's roots in one cut). By AI agents, Wed Nov 11 2026. No macro, syntax, notation, axiom, sorry.
-/
import Derived.Test.YtkhkkaobooednaaChecked
import GoSem.Claim
import GoSem.ClaimJoined
import GoSem.ClaimMapViews
import Derived.JoinedTies
import Derived.KernelRfl
namespace Go.Proofs.Ytkhkkaobooednaa
/- THE CELL 'sum', in the pinned program and in every row, IS THE sha256 OF THE DUMP (.gsa) THAT YtkhkkaobooednaaProg.lean LOADS. Nothing in Lean hashes anything: it is a label: what it is worth is what the hold of that sum in a sandbox is worth. -/
noncomputable def Try.pinned : Pinned := { name := "ytkhkkaobooednaa", sum := "1cb98c72ca3b573eb71b47fc3c3bf6fdada564523ef4ffdcf27f0a7391603a44", checked := Try.checked }
namespace Rows
def none {H : Type} : Left H := { results := [], args := [] }

/-- 'laws.FnExactSameLinks': WHATEVER THE INPUT: true; the input reads as it did. -/
def fnExactSameLinksSpec : ChangeSpec := { name := "fnExactSameLinks", fn := fun _ => fun
  | [d1, d2] => { results := [.lit (.bool true)], args := [d1, d2] }
  | _ => none }
def fnExactSameLinksRow : OpenClaim := { program := "ytkhkkaobooednaa", sum := "1cb98c72ca3b573eb71b47fc3c3bf6fdada564523ef4ffdcf27f0a7391603a44", func := "loop.example/g00810/laws.FnExactSameLinks", spec := "fnExactSameLinks", unfollowed := true, recurses := true, apart := false }
def FnExactSameLinksSaid : Prop := fnExactSameLinksRow.holds Try.pinned (OpenSpec.ofChange fnExactSameLinksSpec)

/-- ITS FALSE NEIGHBOUR: 'it returns false'. Refute it at one input. -/
def fnExactSameLinksWrong : ChangeSpec := { name := "fnExactSameLinks", fn := fun _ => fun
  | [d1, d2] => { results := [.lit (.bool false)], args := [d1, d2] }
  | _ => none }
def FnExactSameLinksWrongFalsely : Prop := fnExactSameLinksRow.holds Try.pinned (OpenSpec.ofChange fnExactSameLinksWrong)

/-- 'laws.FnExactNeighborsOf': WHATEVER THE INPUT: true; the input reads as it did. -/
def fnExactNeighborsOfSpec : ChangeSpec := { name := "fnExactNeighborsOf", fn := fun _ => fun
  | [d1, d2] => { results := [.lit (.bool true)], args := [d1, d2] }
  | _ => none }
def fnExactNeighborsOfRow : OpenClaim := { program := "ytkhkkaobooednaa", sum := "1cb98c72ca3b573eb71b47fc3c3bf6fdada564523ef4ffdcf27f0a7391603a44", func := "loop.example/g00810/laws.FnExactNeighborsOf", spec := "fnExactNeighborsOf", inPlace := ["math/bits.Add64"], unfollowed := true, recurses := true, named := ["math/bits.divideError", "math/bits.overflowError"], apart := false }
def FnExactNeighborsOfSaid : Prop := fnExactNeighborsOfRow.holds Try.pinned (OpenSpec.ofChange fnExactNeighborsOfSpec)

/-- ITS FALSE NEIGHBOUR: 'it returns false'. Refute it at one input. -/
def fnExactNeighborsOfWrong : ChangeSpec := { name := "fnExactNeighborsOf", fn := fun _ => fun
  | [d1, d2] => { results := [.lit (.bool false)], args := [d1, d2] }
  | _ => none }
def FnExactNeighborsOfWrongFalsely : Prop := fnExactNeighborsOfRow.holds Try.pinned (OpenSpec.ofChange fnExactNeighborsOfWrong)

/-- 'laws.FnExactLinkOf': WHATEVER THE INPUT: true; the input reads as it did. -/
def fnExactLinkOfSpec : ChangeSpec := { name := "fnExactLinkOf", fn := fun _ => fun
  | [d1, d2, d3] => { results := [.lit (.bool true)], args := [d1, d2, d3] }
  | _ => none }
def fnExactLinkOfRow : OpenClaim := { program := "ytkhkkaobooednaa", sum := "1cb98c72ca3b573eb71b47fc3c3bf6fdada564523ef4ffdcf27f0a7391603a44", func := "loop.example/g00810/laws.FnExactLinkOf", spec := "fnExactLinkOf", inPlace := ["math/bits.Add64"], unfollowed := true, recurses := true, named := ["math/bits.divideError", "math/bits.overflowError"], apart := false }
def FnExactLinkOfSaid : Prop := fnExactLinkOfRow.holds Try.pinned (OpenSpec.ofChange fnExactLinkOfSpec)

/-- ITS FALSE NEIGHBOUR: 'it returns false'. Refute it at one input. -/
def fnExactLinkOfWrong : ChangeSpec := { name := "fnExactLinkOf", fn := fun _ => fun
  | [d1, d2, d3] => { results := [.lit (.bool false)], args := [d1, d2, d3] }
  | _ => none }
def FnExactLinkOfWrongFalsely : Prop := fnExactLinkOfRow.holds Try.pinned (OpenSpec.ofChange fnExactLinkOfWrong)

/-- 'laws.FnExactWithoutNode': WHATEVER THE INPUT: true; the input reads as it did. -/
def fnExactWithoutNodeSpec : ChangeSpec := { name := "fnExactWithoutNode", fn := fun _ => fun
  | [d1, d2] => { results := [.lit (.bool true)], args := [d1, d2] }
  | _ => none }
def fnExactWithoutNodeRow : OpenClaim := { program := "ytkhkkaobooednaa", sum := "1cb98c72ca3b573eb71b47fc3c3bf6fdada564523ef4ffdcf27f0a7391603a44", func := "loop.example/g00810/laws.FnExactWithoutNode", spec := "fnExactWithoutNode", inPlace := ["math/bits.Add64"], unfollowed := true, recurses := true, named := ["math/bits.divideError", "math/bits.overflowError"], apart := false }
def FnExactWithoutNodeSaid : Prop := fnExactWithoutNodeRow.holds Try.pinned (OpenSpec.ofChange fnExactWithoutNodeSpec)

/-- ITS FALSE NEIGHBOUR: 'it returns false'. Refute it at one input. -/
def fnExactWithoutNodeWrong : ChangeSpec := { name := "fnExactWithoutNode", fn := fun _ => fun
  | [d1, d2] => { results := [.lit (.bool false)], args := [d1, d2] }
  | _ => none }
def FnExactWithoutNodeWrongFalsely : Prop := fnExactWithoutNodeRow.holds Try.pinned (OpenSpec.ofChange fnExactWithoutNodeWrong)

/- THE SECOND FORM. 'bulk': how many values and letters a reading holds, each counted each time it is reached (what is shared counts as often as it is met; a slice's spare places count too). A statement '..UptoSaid' is the law's where the arguments, and the package variables that the reading takes, are together of bulk at most 1048576: NARROWER than '..Said'. Prove '..Said' where nothing that the law and all that it calls make is longer than what came in: it says more and counts as full. Else prove '..UptoSaid'. A law counts once. -/
mutual
def uptoBulk {H : Type} : DataW H → Nat
  | .lit (.string bytes) => bytes.length + 1
  | .lit _ => 1
  | .nil => 1
  | .ptr d => uptoBulk d + 1
  | .slice elems spare => uptoBulkAll elems + uptoBulkAll spare + 1
  | .agg parts => uptoBulkAll parts + 1
  | .iface _ d => uptoBulk d + 1
  | .map entries => uptoBulkEntries entries + 1
  | .held _ => 1
def uptoBulkAll {H : Type} : List (DataW H) → Nat
  | [] => 0
  | d :: r => uptoBulk d + uptoBulkAll r
def uptoBulkEntries {H : Type} : List (Lit × DataW H) → Nat
  | [] => 0
  | x :: r => uptoBulkEntry x + uptoBulkEntries r
def uptoBulkEntry {H : Type} : Lit × DataW H → Nat
  | (.string bytes, d) => bytes.length + uptoBulk d + 1
  | (_, d) => uptoBulk d + 1
 end
def uptoSmall : (H : Type) → List (DataW H) → Bool := fun _ ds => decide (uptoBulkAll ds ≤ 1048576)
def OpenSpec.upto (s : _root_.Go.ChangeSpec) : _root_.Go.OpenSpec := { _root_.Go.OpenSpec.ofChange s with cond := some uptoSmall }

/-- 'laws.FnExactSameLinks', WHERE WHAT IT READS IS OF BULK AT MOST 1048576: true; the input reads as it did. -/
def fnExactSameLinksUptoRow : OpenClaim := { program := "ytkhkkaobooednaa", sum := "1cb98c72ca3b573eb71b47fc3c3bf6fdada564523ef4ffdcf27f0a7391603a44", func := "loop.example/g00810/laws.FnExactSameLinks", spec := "fnExactSameLinks", unfollowed := true, recurses := true, apart := false, narrowed := true }
def FnExactSameLinksUptoSaid : Prop := fnExactSameLinksUptoRow.holds Try.pinned (OpenSpec.upto fnExactSameLinksSpec)

/-- 'laws.FnExactNeighborsOf', WHERE WHAT IT READS IS OF BULK AT MOST 1048576: true; the input reads as it did. -/
def fnExactNeighborsOfUptoRow : OpenClaim := { program := "ytkhkkaobooednaa", sum := "1cb98c72ca3b573eb71b47fc3c3bf6fdada564523ef4ffdcf27f0a7391603a44", func := "loop.example/g00810/laws.FnExactNeighborsOf", spec := "fnExactNeighborsOf", inPlace := ["math/bits.Add64"], unfollowed := true, recurses := true, named := ["math/bits.divideError", "math/bits.overflowError"], apart := false, narrowed := true }
def FnExactNeighborsOfUptoSaid : Prop := fnExactNeighborsOfUptoRow.holds Try.pinned (OpenSpec.upto fnExactNeighborsOfSpec)

/-- 'laws.FnExactLinkOf', WHERE WHAT IT READS IS OF BULK AT MOST 1048576: true; the input reads as it did. -/
def fnExactLinkOfUptoRow : OpenClaim := { program := "ytkhkkaobooednaa", sum := "1cb98c72ca3b573eb71b47fc3c3bf6fdada564523ef4ffdcf27f0a7391603a44", func := "loop.example/g00810/laws.FnExactLinkOf", spec := "fnExactLinkOf", inPlace := ["math/bits.Add64"], unfollowed := true, recurses := true, named := ["math/bits.divideError", "math/bits.overflowError"], apart := false, narrowed := true }
def FnExactLinkOfUptoSaid : Prop := fnExactLinkOfUptoRow.holds Try.pinned (OpenSpec.upto fnExactLinkOfSpec)

/-- 'laws.FnExactWithoutNode', WHERE WHAT IT READS IS OF BULK AT MOST 1048576: true; the input reads as it did. -/
def fnExactWithoutNodeUptoRow : OpenClaim := { program := "ytkhkkaobooednaa", sum := "1cb98c72ca3b573eb71b47fc3c3bf6fdada564523ef4ffdcf27f0a7391603a44", func := "loop.example/g00810/laws.FnExactWithoutNode", spec := "fnExactWithoutNode", inPlace := ["math/bits.Add64"], unfollowed := true, recurses := true, named := ["math/bits.divideError", "math/bits.overflowError"], apart := false, narrowed := true }
def FnExactWithoutNodeUptoSaid : Prop := fnExactWithoutNodeUptoRow.holds Try.pinned (OpenSpec.upto fnExactWithoutNodeSpec)

end Rows
end Go.Proofs.Ytkhkkaobooednaa
