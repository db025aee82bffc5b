/-
  No cell of these rows narrows 'for every input' (looked for: loops, veiled, ifaces, maps, wideKeys, modest, calm, conditions, laid).
  DERIVED. THE GIVEN ROWS OF THIS SEAT. 2 by the template 'for every input the law returns true; each argument reads behind the call as it read before'; 0 by the template 'total and deterministic' (their statements: YtnmmgjddaidpaaaGreatTotals.lean).
  GIVEN WITH THE SEED: the statements are not yours to turn. If you find one false, say at which input.
  Laid BY PROGRAM, IN A SANDBOX (cutbox-rows.mjs): the forced cells as the released guide's own fill.sh prints them over the translation 5bee693b5dcf72b8… (all of the seat's roots in one cut). By AI agents, Wed Nov 11 2026. No macro, syntax, notation, axiom, sorry.
-/
import Derived.Test.YtnmmgjddaidpaaaGreatChecked
import GoSem.Claim
import GoSem.ClaimJoined
import GoSem.ClaimMapViews
import Derived.JoinedTies
import Derived.KernelRfl
namespace Go.Proofs.YtnmmgjddaidpaaaGreat
/- THE CELL 'sum', in the pinned program and in every row, IS THE sha256 OF THE DUMP (.gsa) THAT YtnmmgjddaidpaaaGreatProg.lean LOADS. Nothing in Lean hashes anything: it is a label: what it is worth is what the hold of that sum in a sandbox is worth. -/
noncomputable def Tryz.pinned : Pinned := { name := "ytnmmgjddaidpaaagreat", sum := "5bee693b5dcf72b86bb6c9c3ed4abf3f4352218591b1d9b63b921f60263a5e9e", checked := Tryz.checked }
namespace Rows
def none {H : Type} : Left H := { results := [], args := [] }

/-- 'laws.FnExactMergeLinks': WHATEVER THE INPUT: true; the input reads as it did. -/
def fnExactMergeLinksSpec : ChangeSpec := { name := "fnExactMergeLinks", fn := fun _ => fun
  | [d1, d2] => { results := [.lit (.bool true)], args := [d1, d2] }
  | _ => none }
def fnExactMergeLinksRow : OpenClaim := { program := "ytnmmgjddaidpaaagreat", sum := "5bee693b5dcf72b86bb6c9c3ed4abf3f4352218591b1d9b63b921f60263a5e9e", func := "loop.example/g00810/laws.FnExactMergeLinks", spec := "fnExactMergeLinks", inPlace := ["math/bits.Add64"], named := ["math/bits.divideError", "math/bits.overflowError"], apart := false }
def FnExactMergeLinksSaid : Prop := fnExactMergeLinksRow.holds Tryz.pinned (OpenSpec.ofChange fnExactMergeLinksSpec)

/-- ITS FALSE NEIGHBOUR: 'it returns false'. Refute it at one input. -/
def fnExactMergeLinksWrong : ChangeSpec := { name := "fnExactMergeLinks", fn := fun _ => fun
  | [d1, d2] => { results := [.lit (.bool false)], args := [d1, d2] }
  | _ => none }
def FnExactMergeLinksWrongFalsely : Prop := fnExactMergeLinksRow.holds Tryz.pinned (OpenSpec.ofChange fnExactMergeLinksWrong)

/-- 'laws.FnExactApplyConditional': WHATEVER THE INPUT: true; the input reads as it did. -/
def fnExactApplyConditionalSpec : ChangeSpec := { name := "fnExactApplyConditional", fn := fun _ => fun
  | [d1, d2] => { results := [.lit (.bool true)], args := [d1, d2] }
  | _ => none }
def fnExactApplyConditionalRow : OpenClaim := { program := "ytnmmgjddaidpaaagreat", sum := "5bee693b5dcf72b86bb6c9c3ed4abf3f4352218591b1d9b63b921f60263a5e9e", func := "loop.example/g00810/laws.FnExactApplyConditional", spec := "fnExactApplyConditional", inPlace := ["math/bits.Add64"], unfollowed := true, recurses := true, named := ["math/bits.divideError", "math/bits.overflowError"], apart := false }
def FnExactApplyConditionalSaid : Prop := fnExactApplyConditionalRow.holds Tryz.pinned (OpenSpec.ofChange fnExactApplyConditionalSpec)

/-- ITS FALSE NEIGHBOUR: 'it returns false'. Refute it at one input. -/
def fnExactApplyConditionalWrong : ChangeSpec := { name := "fnExactApplyConditional", fn := fun _ => fun
  | [d1, d2] => { results := [.lit (.bool false)], args := [d1, d2] }
  | _ => none }
def FnExactApplyConditionalWrongFalsely : Prop := fnExactApplyConditionalRow.holds Tryz.pinned (OpenSpec.ofChange fnExactApplyConditionalWrong)

/- THE SECOND FORM. 'bulk': how many values and letters a reading holds, each counted each time it is reached (what is shared counts as often as it is met; a slice's spare places count too). A statement '..UptoSaid' is the law's where the arguments, and the package variables that the reading takes, are together of bulk at most 1048576: NARROWER than '..Said'. Prove '..Said' where nothing that the law and all that it calls make is longer than what came in: it says more and counts as full. Else prove '..UptoSaid'. A law counts once. -/
mutual
def uptoBulk {H : Type} : DataW H → Nat
  | .lit (.string bytes) => bytes.length + 1
  | .lit _ => 1
  | .nil => 1
  | .ptr d => uptoBulk d + 1
  | .slice elems spare => uptoBulkAll elems + uptoBulkAll spare + 1
  | .agg parts => uptoBulkAll parts + 1
  | .iface _ d => uptoBulk d + 1
  | .map entries => uptoBulkEntries entries + 1
  | .held _ => 1
def uptoBulkAll {H : Type} : List (DataW H) → Nat
  | [] => 0
  | d :: r => uptoBulk d + uptoBulkAll r
def uptoBulkEntries {H : Type} : List (Lit × DataW H) → Nat
  | [] => 0
  | x :: r => uptoBulkEntry x + uptoBulkEntries r
def uptoBulkEntry {H : Type} : Lit × DataW H → Nat
  | (.string bytes, d) => bytes.length + uptoBulk d + 1
  | (_, d) => uptoBulk d + 1
 end
def uptoSmall : (H : Type) → List (DataW H) → Bool := fun _ ds => decide (uptoBulkAll ds ≤ 1048576)
def OpenSpec.upto (s : _root_.Go.ChangeSpec) : _root_.Go.OpenSpec := { _root_.Go.OpenSpec.ofChange s with cond := some uptoSmall }

/-- 'laws.FnExactMergeLinks', WHERE WHAT IT READS IS OF BULK AT MOST 1048576: true; the input reads as it did. -/
def fnExactMergeLinksUptoRow : OpenClaim := { program := "ytnmmgjddaidpaaagreat", sum := "5bee693b5dcf72b86bb6c9c3ed4abf3f4352218591b1d9b63b921f60263a5e9e", func := "loop.example/g00810/laws.FnExactMergeLinks", spec := "fnExactMergeLinks", inPlace := ["math/bits.Add64"], named := ["math/bits.divideError", "math/bits.overflowError"], apart := false, narrowed := true }
def FnExactMergeLinksUptoSaid : Prop := fnExactMergeLinksUptoRow.holds Tryz.pinned (OpenSpec.upto fnExactMergeLinksSpec)

/-- 'laws.FnExactApplyConditional', WHERE WHAT IT READS IS OF BULK AT MOST 1048576: true; the input reads as it did. -/
def fnExactApplyConditionalUptoRow : OpenClaim := { program := "ytnmmgjddaidpaaagreat", sum := "5bee693b5dcf72b86bb6c9c3ed4abf3f4352218591b1d9b63b921f60263a5e9e", func := "loop.example/g00810/laws.FnExactApplyConditional", spec := "fnExactApplyConditional", inPlace := ["math/bits.Add64"], unfollowed := true, recurses := true, named := ["math/bits.divideError", "math/bits.overflowError"], apart := false, narrowed := true }
def FnExactApplyConditionalUptoSaid : Prop := fnExactApplyConditionalUptoRow.holds Tryz.pinned (OpenSpec.upto fnExactApplyConditionalSpec)

end Rows
end Go.Proofs.YtnmmgjddaidpaaaGreat
