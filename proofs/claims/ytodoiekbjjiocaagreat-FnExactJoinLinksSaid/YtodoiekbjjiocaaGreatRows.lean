/-
  No cell of these rows narrows 'for every input' (looked for: loops, veiled, ifaces, maps, wideKeys, modest, calm, conditions, laid).
  DERIVED. THE GIVEN ROWS OF THIS SEAT. 2 by the template 'for every input the law returns true; each argument reads behind the call as it read before'; 0 by the template 'total and deterministic' (their statements: YtodoiekbjjiocaaGreatTotals.lean).
  GIVEN WITH THE SEED: the statements are not yours to turn. If you find one false, say at which input.
  Laid BY PROGRAM, IN A SANDBOX (cutbox-rows.mjs): the forced cells as the released guide's own fill.sh prints them over the translation ec8c56b2bcb17110… (all of the seat's roots in one cut). By AI agents, Wed Nov 11 2026. No macro, syntax, notation, axiom, sorry.
-/
import Derived.Test.YtodoiekbjjiocaaGreatChecked
import GoSem.Claim
import GoSem.ClaimJoined
import GoSem.ClaimMapViews
import Derived.JoinedTies
import Derived.KernelRfl
namespace Go.Proofs.YtodoiekbjjiocaaGreat
/- THE CELL 'sum', in the pinned program and in every row, IS THE sha256 OF THE DUMP (.gsa) THAT YtodoiekbjjiocaaGreatProg.lean LOADS. Nothing in Lean hashes anything: it is a label: what it is worth is what the hold of that sum in a sandbox is worth. -/
noncomputable def Tryz.pinned : Pinned := { name := "ytodoiekbjjiocaagreat", sum := "ec8c56b2bcb1711008ed0072f8c23186e68894b32c2e97f4f2feff5dedcdde94", checked := Tryz.checked }
namespace Rows
def none {H : Type} : Left H := { results := [], args := [] }

/-- 'laws.FnExactAddLink': WHATEVER THE INPUT: true; the input reads as it did. -/
def fnExactAddLinkSpec : ChangeSpec := { name := "fnExactAddLink", fn := fun _ => fun
  | [d1, d2] => { results := [.lit (.bool true)], args := [d1, d2] }
  | _ => none }
def fnExactAddLinkRow : OpenClaim := { program := "ytodoiekbjjiocaagreat", sum := "ec8c56b2bcb1711008ed0072f8c23186e68894b32c2e97f4f2feff5dedcdde94", func := "loop.example/g00810/laws.FnExactAddLink", spec := "fnExactAddLink", inPlace := ["math/bits.Add64", "slices.overlaps[loop.example/g00810/impl.Link]"], unfollowed := true, recurses := true, named := ["math/bits.divideError", "math/bits.overflowError"], apart := false }
def FnExactAddLinkSaid : Prop := fnExactAddLinkRow.holds Tryz.pinned (OpenSpec.ofChange fnExactAddLinkSpec)

/-- ITS FALSE NEIGHBOUR: 'it returns false'. Refute it at one input. -/
def fnExactAddLinkWrong : ChangeSpec := { name := "fnExactAddLink", fn := fun _ => fun
  | [d1, d2] => { results := [.lit (.bool false)], args := [d1, d2] }
  | _ => none }
def FnExactAddLinkWrongFalsely : Prop := fnExactAddLinkRow.holds Tryz.pinned (OpenSpec.ofChange fnExactAddLinkWrong)

/-- 'laws.FnExactJoinLinks': WHATEVER THE INPUT: true; the input reads as it did. -/
def fnExactJoinLinksSpec : ChangeSpec := { name := "fnExactJoinLinks", fn := fun _ => fun
  | [d] => { results := [.lit (.bool true)], args := [d] }
  | _ => none }
def fnExactJoinLinksRow : OpenClaim := { program := "ytodoiekbjjiocaagreat", sum := "ec8c56b2bcb1711008ed0072f8c23186e68894b32c2e97f4f2feff5dedcdde94", func := "loop.example/g00810/laws.FnExactJoinLinks", spec := "fnExactJoinLinks", inPlace := ["math/bits.Add64", "slices.overlaps[loop.example/g00810/impl.Link]"], unfollowed := true, recurses := true, named := ["math/bits.divideError", "math/bits.overflowError"], apart := false }
def FnExactJoinLinksSaid : Prop := fnExactJoinLinksRow.holds Tryz.pinned (OpenSpec.ofChange fnExactJoinLinksSpec)

/-- ITS FALSE NEIGHBOUR: 'it returns false'. Refute it at one input. -/
def fnExactJoinLinksWrong : ChangeSpec := { name := "fnExactJoinLinks", fn := fun _ => fun
  | [d] => { results := [.lit (.bool false)], args := [d] }
  | _ => none }
def FnExactJoinLinksWrongFalsely : Prop := fnExactJoinLinksRow.holds Tryz.pinned (OpenSpec.ofChange fnExactJoinLinksWrong)

/- THE SECOND FORM. 'bulk': how many values and letters a reading holds, each counted each time it is reached (what is shared counts as often as it is met; a slice's spare places count too). A statement '..UptoSaid' is the law's where the arguments, and the package variables that the reading takes, are together of bulk at most 1048576: NARROWER than '..Said'. Prove '..Said' where nothing that the law and all that it calls make is longer than what came in: it says more and counts as full. Else prove '..UptoSaid'. A law counts once. -/
mutual
def uptoBulk {H : Type} : DataW H → Nat
  | .lit (.string bytes) => bytes.length + 1
  | .lit _ => 1
  | .nil => 1
  | .ptr d => uptoBulk d + 1
  | .slice elems spare => uptoBulkAll elems + uptoBulkAll spare + 1
  | .agg parts => uptoBulkAll parts + 1
  | .iface _ d => uptoBulk d + 1
  | .map entries => uptoBulkEntries entries + 1
  | .held _ => 1
def uptoBulkAll {H : Type} : List (DataW H) → Nat
  | [] => 0
  | d :: r => uptoBulk d + uptoBulkAll r
def uptoBulkEntries {H : Type} : List (Lit × DataW H) → Nat
  | [] => 0
  | x :: r => uptoBulkEntry x + uptoBulkEntries r
def uptoBulkEntry {H : Type} : Lit × DataW H → Nat
  | (.string bytes, d) => bytes.length + uptoBulk d + 1
  | (_, d) => uptoBulk d + 1
 end
def uptoSmall : (H : Type) → List (DataW H) → Bool := fun _ ds => decide (uptoBulkAll ds ≤ 1048576)
def OpenSpec.upto (s : _root_.Go.ChangeSpec) : _root_.Go.OpenSpec := { _root_.Go.OpenSpec.ofChange s with cond := some uptoSmall }

/-- 'laws.FnExactAddLink', WHERE WHAT IT READS IS OF BULK AT MOST 1048576: true; the input reads as it did. -/
def fnExactAddLinkUptoRow : OpenClaim := { program := "ytodoiekbjjiocaagreat", sum := "ec8c56b2bcb1711008ed0072f8c23186e68894b32c2e97f4f2feff5dedcdde94", func := "loop.example/g00810/laws.FnExactAddLink", spec := "fnExactAddLink", inPlace := ["math/bits.Add64", "slices.overlaps[loop.example/g00810/impl.Link]"], unfollowed := true, recurses := true, named := ["math/bits.divideError", "math/bits.overflowError"], apart := false, narrowed := true }
def FnExactAddLinkUptoSaid : Prop := fnExactAddLinkUptoRow.holds Tryz.pinned (OpenSpec.upto fnExactAddLinkSpec)

/-- 'laws.FnExactJoinLinks', WHERE WHAT IT READS IS OF BULK AT MOST 1048576: true; the input reads as it did. -/
def fnExactJoinLinksUptoRow : OpenClaim := { program := "ytodoiekbjjiocaagreat", sum := "ec8c56b2bcb1711008ed0072f8c23186e68894b32c2e97f4f2feff5dedcdde94", func := "loop.example/g00810/laws.FnExactJoinLinks", spec := "fnExactJoinLinks", inPlace := ["math/bits.Add64", "slices.overlaps[loop.example/g00810/impl.Link]"], unfollowed := true, recurses := true, named := ["math/bits.divideError", "math/bits.overflowError"], apart := false, narrowed := true }
def FnExactJoinLinksUptoSaid : Prop := fnExactJoinLinksUptoRow.holds Tryz.pinned (OpenSpec.upto fnExactJoinLinksSpec)

end Rows
end Go.Proofs.YtodoiekbjjiocaaGreat
