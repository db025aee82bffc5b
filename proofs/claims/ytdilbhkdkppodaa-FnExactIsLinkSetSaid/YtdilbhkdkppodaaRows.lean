/-
  No cell of these rows narrows 'for every input' (looked for: loops, veiled, ifaces, maps, wideKeys, modest, calm, conditions, laid).
  DERIVED. THE GIVEN ROWS OF THIS SEAT. 4 by the template 'for every input the law returns true; each argument reads behind the call as it read before'; 0 by the template 'total and deterministic' (their statements: YtdilbhkdkppodaaTotals.lean).
  GIVEN WITH THE SEED: the statements are not yours to turn. If you find one false, say at which input.
  Laid BY PROGRAM, IN A SANDBOX (cutbox-rows.mjs): the forced cells as the released guide's own fill.sh prints them over the translation c748bd676ce17524… (all of the seat's roots in one cut). By AI agents, Wed Nov 11 2026. No macro, syntax, notation, axiom, sorry.
-/
import Derived.Test.YtdilbhkdkppodaaChecked
import GoSem.Claim
import GoSem.ClaimJoined
import GoSem.ClaimMapViews
import Derived.JoinedTies
import Derived.KernelRfl
namespace Go.Proofs.Ytdilbhkdkppodaa
/- THE CELL 'sum', in the pinned program and in every row, IS THE sha256 OF THE DUMP (.gsa) THAT YtdilbhkdkppodaaProg.lean LOADS. Nothing in Lean hashes anything: it is a label: what it is worth is what the hold of that sum in a sandbox is worth. -/
noncomputable def Try.pinned : Pinned := { name := "ytdilbhkdkppodaa", sum := "c748bd676ce17524f4703d193f2993b92a60d709b3106024ef3d73945584ea2b", checked := Try.checked }
namespace Rows
def none {H : Type} : Left H := { results := [], args := [] }

/-- 'laws.FnExactIsValidLink': WHATEVER THE INPUT: true; the input reads as it did. -/
def fnExactIsValidLinkSpec : ChangeSpec := { name := "fnExactIsValidLink", fn := fun _ => fun
  | [d] => { results := [.lit (.bool true)], args := [d] }
  | _ => none }
def fnExactIsValidLinkRow : OpenClaim := { program := "ytdilbhkdkppodaa", sum := "c748bd676ce17524f4703d193f2993b92a60d709b3106024ef3d73945584ea2b", func := "loop.example/g00810/laws.FnExactIsValidLink", spec := "fnExactIsValidLink", inPlace := ["math/bits.Add64"], named := ["math/bits.divideError", "math/bits.overflowError"], apart := false }
def FnExactIsValidLinkSaid : Prop := fnExactIsValidLinkRow.holds Try.pinned (OpenSpec.ofChange fnExactIsValidLinkSpec)

/-- ITS FALSE NEIGHBOUR: 'it returns false'. Refute it at one input. -/
def fnExactIsValidLinkWrong : ChangeSpec := { name := "fnExactIsValidLink", fn := fun _ => fun
  | [d] => { results := [.lit (.bool false)], args := [d] }
  | _ => none }
def FnExactIsValidLinkWrongFalsely : Prop := fnExactIsValidLinkRow.holds Try.pinned (OpenSpec.ofChange fnExactIsValidLinkWrong)

/-- 'laws.FnExactNewLink': WHATEVER THE INPUT: true; the input reads as it did. -/
def fnExactNewLinkSpec : ChangeSpec := { name := "fnExactNewLink", fn := fun _ => fun
  | [d1, d2, d3, d4, d5] => { results := [.lit (.bool true)], args := [d1, d2, d3, d4, d5] }
  | _ => none }
def fnExactNewLinkRow : OpenClaim := { program := "ytdilbhkdkppodaa", sum := "c748bd676ce17524f4703d193f2993b92a60d709b3106024ef3d73945584ea2b", func := "loop.example/g00810/laws.FnExactNewLink", spec := "fnExactNewLink", inPlace := ["math/bits.Add64"], named := ["math/bits.divideError", "math/bits.overflowError"], apart := false }
def FnExactNewLinkSaid : Prop := fnExactNewLinkRow.holds Try.pinned (OpenSpec.ofChange fnExactNewLinkSpec)

/-- ITS FALSE NEIGHBOUR: 'it returns false'. Refute it at one input. -/
def fnExactNewLinkWrong : ChangeSpec := { name := "fnExactNewLink", fn := fun _ => fun
  | [d1, d2, d3, d4, d5] => { results := [.lit (.bool false)], args := [d1, d2, d3, d4, d5] }
  | _ => none }
def FnExactNewLinkWrongFalsely : Prop := fnExactNewLinkRow.holds Try.pinned (OpenSpec.ofChange fnExactNewLinkWrong)

/-- 'laws.FnExactIsLinkSet': WHATEVER THE INPUT: true; the input reads as it did. -/
def fnExactIsLinkSetSpec : ChangeSpec := { name := "fnExactIsLinkSet", fn := fun _ => fun
  | [d] => { results := [.lit (.bool true)], args := [d] }
  | _ => none }
def fnExactIsLinkSetRow : OpenClaim := { program := "ytdilbhkdkppodaa", sum := "c748bd676ce17524f4703d193f2993b92a60d709b3106024ef3d73945584ea2b", func := "loop.example/g00810/laws.FnExactIsLinkSet", spec := "fnExactIsLinkSet", inPlace := ["math/bits.Add64"], unfollowed := true, recurses := true, named := ["math/bits.divideError", "math/bits.overflowError"], apart := false }
def FnExactIsLinkSetSaid : Prop := fnExactIsLinkSetRow.holds Try.pinned (OpenSpec.ofChange fnExactIsLinkSetSpec)

/-- ITS FALSE NEIGHBOUR: 'it returns false'. Refute it at one input. -/
def fnExactIsLinkSetWrong : ChangeSpec := { name := "fnExactIsLinkSet", fn := fun _ => fun
  | [d] => { results := [.lit (.bool false)], args := [d] }
  | _ => none }
def FnExactIsLinkSetWrongFalsely : Prop := fnExactIsLinkSetRow.holds Try.pinned (OpenSpec.ofChange fnExactIsLinkSetWrong)

/-- 'laws.FnExactSameLinks': WHATEVER THE INPUT: true; the input reads as it did. -/
def fnExactSameLinksSpec : ChangeSpec := { name := "fnExactSameLinks", fn := fun _ => fun
  | [d1, d2] => { results := [.lit (.bool true)], args := [d1, d2] }
  | _ => none }
def fnExactSameLinksRow : OpenClaim := { program := "ytdilbhkdkppodaa", sum := "c748bd676ce17524f4703d193f2993b92a60d709b3106024ef3d73945584ea2b", func := "loop.example/g00810/laws.FnExactSameLinks", spec := "fnExactSameLinks", unfollowed := true, recurses := true, apart := false }
def FnExactSameLinksSaid : Prop := fnExactSameLinksRow.holds Try.pinned (OpenSpec.ofChange fnExactSameLinksSpec)

/-- ITS FALSE NEIGHBOUR: 'it returns false'. Refute it at one input. -/
def fnExactSameLinksWrong : ChangeSpec := { name := "fnExactSameLinks", fn := fun _ => fun
  | [d1, d2] => { results := [.lit (.bool false)], args := [d1, d2] }
  | _ => none }
def FnExactSameLinksWrongFalsely : Prop := fnExactSameLinksRow.holds Try.pinned (OpenSpec.ofChange fnExactSameLinksWrong)

/- THE SECOND FORM. 'bulk': how many values and letters a reading holds, each counted each time it is reached (what is shared counts as often as it is met; a slice's spare places count too). A statement '..UptoSaid' is the law's where the arguments, and the package variables that the reading takes, are together of bulk at most 1048576: NARROWER than '..Said'. Prove '..Said' where nothing that the law and all that it calls make is longer than what came in: it says more and counts as full. Else prove '..UptoSaid'. A law counts once. -/
mutual
def uptoBulk {H : Type} : DataW H → Nat
  | .lit (.string bytes) => bytes.length + 1
  | .lit _ => 1
  | .nil => 1
  | .ptr d => uptoBulk d + 1
  | .slice elems spare => uptoBulkAll elems + uptoBulkAll spare + 1
  | .agg parts => uptoBulkAll parts + 1
  | .iface _ d => uptoBulk d + 1
  | .map entries => uptoBulkEntries entries + 1
  | .held _ => 1
def uptoBulkAll {H : Type} : List (DataW H) → Nat
  | [] => 0
  | d :: r => uptoBulk d + uptoBulkAll r
def uptoBulkEntries {H : Type} : List (Lit × DataW H) → Nat
  | [] => 0
  | x :: r => uptoBulkEntry x + uptoBulkEntries r
def uptoBulkEntry {H : Type} : Lit × DataW H → Nat
  | (.string bytes, d) => bytes.length + uptoBulk d + 1
  | (_, d) => uptoBulk d + 1
 end
def uptoSmall : (H : Type) → List (DataW H) → Bool := fun _ ds => decide (uptoBulkAll ds ≤ 1048576)
def OpenSpec.upto (s : _root_.Go.ChangeSpec) : _root_.Go.OpenSpec := { _root_.Go.OpenSpec.ofChange s with cond := some uptoSmall }

/-- 'laws.FnExactIsValidLink', WHERE WHAT IT READS IS OF BULK AT MOST 1048576: true; the input reads as it did. -/
def fnExactIsValidLinkUptoRow : OpenClaim := { program := "ytdilbhkdkppodaa", sum := "c748bd676ce17524f4703d193f2993b92a60d709b3106024ef3d73945584ea2b", func := "loop.example/g00810/laws.FnExactIsValidLink", spec := "fnExactIsValidLink", inPlace := ["math/bits.Add64"], named := ["math/bits.divideError", "math/bits.overflowError"], apart := false, narrowed := true }
def FnExactIsValidLinkUptoSaid : Prop := fnExactIsValidLinkUptoRow.holds Try.pinned (OpenSpec.upto fnExactIsValidLinkSpec)

/-- 'laws.FnExactNewLink', WHERE WHAT IT READS IS OF BULK AT MOST 1048576: true; the input reads as it did. -/
def fnExactNewLinkUptoRow : OpenClaim := { program := "ytdilbhkdkppodaa", sum := "c748bd676ce17524f4703d193f2993b92a60d709b3106024ef3d73945584ea2b", func := "loop.example/g00810/laws.FnExactNewLink", spec := "fnExactNewLink", inPlace := ["math/bits.Add64"], named := ["math/bits.divideError", "math/bits.overflowError"], apart := false, narrowed := true }
def FnExactNewLinkUptoSaid : Prop := fnExactNewLinkUptoRow.holds Try.pinned (OpenSpec.upto fnExactNewLinkSpec)

/-- 'laws.FnExactIsLinkSet', WHERE WHAT IT READS IS OF BULK AT MOST 1048576: true; the input reads as it did. -/
def fnExactIsLinkSetUptoRow : OpenClaim := { program := "ytdilbhkdkppodaa", sum := "c748bd676ce17524f4703d193f2993b92a60d709b3106024ef3d73945584ea2b", func := "loop.example/g00810/laws.FnExactIsLinkSet", spec := "fnExactIsLinkSet", inPlace := ["math/bits.Add64"], unfollowed := true, recurses := true, named := ["math/bits.divideError", "math/bits.overflowError"], apart := false, narrowed := true }
def FnExactIsLinkSetUptoSaid : Prop := fnExactIsLinkSetUptoRow.holds Try.pinned (OpenSpec.upto fnExactIsLinkSetSpec)

/-- 'laws.FnExactSameLinks', WHERE WHAT IT READS IS OF BULK AT MOST 1048576: true; the input reads as it did. -/
def fnExactSameLinksUptoRow : OpenClaim := { program := "ytdilbhkdkppodaa", sum := "c748bd676ce17524f4703d193f2993b92a60d709b3106024ef3d73945584ea2b", func := "loop.example/g00810/laws.FnExactSameLinks", spec := "fnExactSameLinks", unfollowed := true, recurses := true, apart := false, narrowed := true }
def FnExactSameLinksUptoSaid : Prop := fnExactSameLinksUptoRow.holds Try.pinned (OpenSpec.upto fnExactSameLinksSpec)

end Rows
end Go.Proofs.Ytdilbhkdkppodaa
