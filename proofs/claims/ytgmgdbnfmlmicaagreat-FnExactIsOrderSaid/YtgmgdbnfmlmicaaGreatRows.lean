/-
  No cell of these rows narrows 'for every input' (looked for: loops, veiled, ifaces, maps, wideKeys, modest, calm, conditions, laid).
  DERIVED. THE GIVEN ROWS OF THIS SEAT. 6 by the template 'for every input the law returns true; each argument reads behind the call as it read before'; 0 by the template 'total and deterministic' (their statements: YtgmgdbnfmlmicaaGreatTotals.lean).
  GIVEN WITH THE SEED: the statements are not yours to turn. If you find one false, say at which input.
  Laid BY PROGRAM, IN A SANDBOX (cutbox-rows.mjs): the forced cells as the released guide's own fill.sh prints them over the translation dd4a916e12c7e4ef… (all of the seat's roots in one cut). By AI agents, Wed Nov 11 2026. No macro, syntax, notation, axiom, sorry.
-/
import Derived.Test.YtgmgdbnfmlmicaaGreatChecked
import GoSem.Claim
import GoSem.ClaimJoined
import GoSem.ClaimMapViews
import Derived.JoinedTies
import Derived.KernelRfl
namespace Go.Proofs.YtgmgdbnfmlmicaaGreat
/- THE CELL 'sum', in the pinned program and in every row, IS THE sha256 OF THE DUMP (.gsa) THAT YtgmgdbnfmlmicaaGreatProg.lean LOADS. Nothing in Lean hashes anything: it is a label: what it is worth is what the hold of that sum in a sandbox is worth. -/
noncomputable def Tryz.pinned : Pinned := { name := "ytgmgdbnfmlmicaagreat", sum := "dd4a916e12c7e4ef02fa86763170243c4c7d65c7d2bdd25e30443445b6e2121a", checked := Tryz.checked }
namespace Rows
def none {H : Type} : Left H := { results := [], args := [] }

/-- 'laws.FnOrders': WHATEVER THE INPUT: true; the input reads as it did. -/
def fnOrdersSpec : ChangeSpec := { name := "fnOrders", fn := fun _ => fun
  | [d] => { results := [.lit (.bool true)], args := [d] }
  | _ => none }
def fnOrdersRow : OpenClaim := { program := "ytgmgdbnfmlmicaagreat", sum := "dd4a916e12c7e4ef02fa86763170243c4c7d65c7d2bdd25e30443445b6e2121a", func := "loop.example/g00810/laws.FnOrders", spec := "fnOrders", inPlace := ["math/bits.Add64", "maps.clone"], unfollowed := true, recurses := true, named := ["math/bits.divideError", "math/bits.overflowError"], apart := false }
def FnOrdersSaid : Prop := fnOrdersRow.holds Tryz.pinned (OpenSpec.ofChange fnOrdersSpec)

/-- ITS FALSE NEIGHBOUR: 'it returns false'. Refute it at one input. -/
def fnOrdersWrong : ChangeSpec := { name := "fnOrders", fn := fun _ => fun
  | [d] => { results := [.lit (.bool false)], args := [d] }
  | _ => none }
def FnOrdersWrongFalsely : Prop := fnOrdersRow.holds Tryz.pinned (OpenSpec.ofChange fnOrdersWrong)

/-- 'laws.FnExactIsOrder': WHATEVER THE INPUT: true; the input reads as it did. -/
def fnExactIsOrderSpec : ChangeSpec := { name := "fnExactIsOrder", fn := fun _ => fun
  | [d1, d2] => { results := [.lit (.bool true)], args := [d1, d2] }
  | _ => none }
def fnExactIsOrderRow : OpenClaim := { program := "ytgmgdbnfmlmicaagreat", sum := "dd4a916e12c7e4ef02fa86763170243c4c7d65c7d2bdd25e30443445b6e2121a", func := "loop.example/g00810/laws.FnExactIsOrder", spec := "fnExactIsOrder", inPlace := ["math/bits.Add64"], unfollowed := true, recurses := true, named := ["math/bits.divideError", "math/bits.overflowError"], apart := false }
def FnExactIsOrderSaid : Prop := fnExactIsOrderRow.holds Tryz.pinned (OpenSpec.ofChange fnExactIsOrderSpec)

/-- ITS FALSE NEIGHBOUR: 'it returns false'. Refute it at one input. -/
def fnExactIsOrderWrong : ChangeSpec := { name := "fnExactIsOrder", fn := fun _ => fun
  | [d1, d2] => { results := [.lit (.bool false)], args := [d1, d2] }
  | _ => none }
def FnExactIsOrderWrongFalsely : Prop := fnExactIsOrderRow.holds Tryz.pinned (OpenSpec.ofChange fnExactIsOrderWrong)

/-- 'laws.FnExactFillCount': WHATEVER THE INPUT: true; the input reads as it did. -/
def fnExactFillCountSpec : ChangeSpec := { name := "fnExactFillCount", fn := fun _ => fun
  | [d1, d2] => { results := [.lit (.bool true)], args := [d1, d2] }
  | _ => none }
def fnExactFillCountRow : OpenClaim := { program := "ytgmgdbnfmlmicaagreat", sum := "dd4a916e12c7e4ef02fa86763170243c4c7d65c7d2bdd25e30443445b6e2121a", func := "loop.example/g00810/laws.FnExactFillCount", spec := "fnExactFillCount", inPlace := ["math/bits.Add64"], unfollowed := true, recurses := true, named := ["math/bits.divideError", "math/bits.overflowError"], apart := false }
def FnExactFillCountSaid : Prop := fnExactFillCountRow.holds Tryz.pinned (OpenSpec.ofChange fnExactFillCountSpec)

/-- ITS FALSE NEIGHBOUR: 'it returns false'. Refute it at one input. -/
def fnExactFillCountWrong : ChangeSpec := { name := "fnExactFillCount", fn := fun _ => fun
  | [d1, d2] => { results := [.lit (.bool false)], args := [d1, d2] }
  | _ => none }
def FnExactFillCountWrongFalsely : Prop := fnExactFillCountRow.holds Tryz.pinned (OpenSpec.ofChange fnExactFillCountWrong)

/-- 'laws.FnExactMinDegreeOrder': WHATEVER THE INPUT: true; the input reads as it did. -/
def fnExactMinDegreeOrderSpec : ChangeSpec := { name := "fnExactMinDegreeOrder", fn := fun _ => fun
  | [d1, d2] => { results := [.lit (.bool true)], args := [d1, d2] }
  | _ => none }
def fnExactMinDegreeOrderRow : OpenClaim := { program := "ytgmgdbnfmlmicaagreat", sum := "dd4a916e12c7e4ef02fa86763170243c4c7d65c7d2bdd25e30443445b6e2121a", func := "loop.example/g00810/laws.FnExactMinDegreeOrder", spec := "fnExactMinDegreeOrder", inPlace := ["math/bits.Add64"], unfollowed := true, recurses := true, named := ["math/bits.divideError", "math/bits.overflowError"], apart := false }
def FnExactMinDegreeOrderSaid : Prop := fnExactMinDegreeOrderRow.holds Tryz.pinned (OpenSpec.ofChange fnExactMinDegreeOrderSpec)

/-- ITS FALSE NEIGHBOUR: 'it returns false'. Refute it at one input. -/
def fnExactMinDegreeOrderWrong : ChangeSpec := { name := "fnExactMinDegreeOrder", fn := fun _ => fun
  | [d1, d2] => { results := [.lit (.bool false)], args := [d1, d2] }
  | _ => none }
def FnExactMinDegreeOrderWrongFalsely : Prop := fnExactMinDegreeOrderRow.holds Tryz.pinned (OpenSpec.ofChange fnExactMinDegreeOrderWrong)

/-- 'laws.FnExactEliminationTree': WHATEVER THE INPUT: true; the input reads as it did. -/
def fnExactEliminationTreeSpec : ChangeSpec := { name := "fnExactEliminationTree", fn := fun _ => fun
  | [d1, d2] => { results := [.lit (.bool true)], args := [d1, d2] }
  | _ => none }
def fnExactEliminationTreeRow : OpenClaim := { program := "ytgmgdbnfmlmicaagreat", sum := "dd4a916e12c7e4ef02fa86763170243c4c7d65c7d2bdd25e30443445b6e2121a", func := "loop.example/g00810/laws.FnExactEliminationTree", spec := "fnExactEliminationTree", inPlace := ["math/bits.Add64"], unfollowed := true, recurses := true, named := ["math/bits.divideError", "math/bits.overflowError"], apart := false }
def FnExactEliminationTreeSaid : Prop := fnExactEliminationTreeRow.holds Tryz.pinned (OpenSpec.ofChange fnExactEliminationTreeSpec)

/-- ITS FALSE NEIGHBOUR: 'it returns false'. Refute it at one input. -/
def fnExactEliminationTreeWrong : ChangeSpec := { name := "fnExactEliminationTree", fn := fun _ => fun
  | [d1, d2] => { results := [.lit (.bool false)], args := [d1, d2] }
  | _ => none }
def FnExactEliminationTreeWrongFalsely : Prop := fnExactEliminationTreeRow.holds Tryz.pinned (OpenSpec.ofChange fnExactEliminationTreeWrong)

/-- 'laws.FnExactBestFill': WHATEVER THE INPUT: true; the input reads as it did. -/
def fnExactBestFillSpec : ChangeSpec := { name := "fnExactBestFill", fn := fun _ => fun
  | [d] => { results := [.lit (.bool true)], args := [d] }
  | _ => none }
def fnExactBestFillRow : OpenClaim := { program := "ytgmgdbnfmlmicaagreat", sum := "dd4a916e12c7e4ef02fa86763170243c4c7d65c7d2bdd25e30443445b6e2121a", func := "loop.example/g00810/laws.FnExactBestFill", spec := "fnExactBestFill", inPlace := ["math/bits.Add64", "maps.clone"], unfollowed := true, recurses := true, named := ["math/bits.divideError", "math/bits.overflowError"], apart := false }
def FnExactBestFillSaid : Prop := fnExactBestFillRow.holds Tryz.pinned (OpenSpec.ofChange fnExactBestFillSpec)

/-- ITS FALSE NEIGHBOUR: 'it returns false'. Refute it at one input. -/
def fnExactBestFillWrong : ChangeSpec := { name := "fnExactBestFill", fn := fun _ => fun
  | [d] => { results := [.lit (.bool false)], args := [d] }
  | _ => none }
def FnExactBestFillWrongFalsely : Prop := fnExactBestFillRow.holds Tryz.pinned (OpenSpec.ofChange fnExactBestFillWrong)

/- THE SECOND FORM. 'bulk': how many values and letters a reading holds, each counted each time it is reached (what is shared counts as often as it is met; a slice's spare places count too). A statement '..UptoSaid' is the law's where the arguments, and the package variables that the reading takes, are together of bulk at most 1048576: NARROWER than '..Said'. Prove '..Said' where nothing that the law and all that it calls make is longer than what came in: it says more and counts as full. Else prove '..UptoSaid'. A law counts once. -/
mutual
def uptoBulk {H : Type} : DataW H → Nat
  | .lit (.string bytes) => bytes.length + 1
  | .lit _ => 1
  | .nil => 1
  | .ptr d => uptoBulk d + 1
  | .slice elems spare => uptoBulkAll elems + uptoBulkAll spare + 1
  | .agg parts => uptoBulkAll parts + 1
  | .iface _ d => uptoBulk d + 1
  | .map entries => uptoBulkEntries entries + 1
  | .held _ => 1
def uptoBulkAll {H : Type} : List (DataW H) → Nat
  | [] => 0
  | d :: r => uptoBulk d + uptoBulkAll r
def uptoBulkEntries {H : Type} : List (Lit × DataW H) → Nat
  | [] => 0
  | x :: r => uptoBulkEntry x + uptoBulkEntries r
def uptoBulkEntry {H : Type} : Lit × DataW H → Nat
  | (.string bytes, d) => bytes.length + uptoBulk d + 1
  | (_, d) => uptoBulk d + 1
 end
def uptoSmall : (H : Type) → List (DataW H) → Bool := fun _ ds => decide (uptoBulkAll ds ≤ 1048576)
def OpenSpec.upto (s : _root_.Go.ChangeSpec) : _root_.Go.OpenSpec := { _root_.Go.OpenSpec.ofChange s with cond := some uptoSmall }

/-- 'laws.FnOrders', WHERE WHAT IT READS IS OF BULK AT MOST 1048576: true; the input reads as it did. -/
def fnOrdersUptoRow : OpenClaim := { program := "ytgmgdbnfmlmicaagreat", sum := "dd4a916e12c7e4ef02fa86763170243c4c7d65c7d2bdd25e30443445b6e2121a", func := "loop.example/g00810/laws.FnOrders", spec := "fnOrders", inPlace := ["math/bits.Add64", "maps.clone"], unfollowed := true, recurses := true, named := ["math/bits.divideError", "math/bits.overflowError"], apart := false, narrowed := true }
def FnOrdersUptoSaid : Prop := fnOrdersUptoRow.holds Tryz.pinned (OpenSpec.upto fnOrdersSpec)

/-- 'laws.FnExactIsOrder', WHERE WHAT IT READS IS OF BULK AT MOST 1048576: true; the input reads as it did. -/
def fnExactIsOrderUptoRow : OpenClaim := { program := "ytgmgdbnfmlmicaagreat", sum := "dd4a916e12c7e4ef02fa86763170243c4c7d65c7d2bdd25e30443445b6e2121a", func := "loop.example/g00810/laws.FnExactIsOrder", spec := "fnExactIsOrder", inPlace := ["math/bits.Add64"], unfollowed := true, recurses := true, named := ["math/bits.divideError", "math/bits.overflowError"], apart := false, narrowed := true }
def FnExactIsOrderUptoSaid : Prop := fnExactIsOrderUptoRow.holds Tryz.pinned (OpenSpec.upto fnExactIsOrderSpec)

/-- 'laws.FnExactFillCount', WHERE WHAT IT READS IS OF BULK AT MOST 1048576: true; the input reads as it did. -/
def fnExactFillCountUptoRow : OpenClaim := { program := "ytgmgdbnfmlmicaagreat", sum := "dd4a916e12c7e4ef02fa86763170243c4c7d65c7d2bdd25e30443445b6e2121a", func := "loop.example/g00810/laws.FnExactFillCount", spec := "fnExactFillCount", inPlace := ["math/bits.Add64"], unfollowed := true, recurses := true, named := ["math/bits.divideError", "math/bits.overflowError"], apart := false, narrowed := true }
def FnExactFillCountUptoSaid : Prop := fnExactFillCountUptoRow.holds Tryz.pinned (OpenSpec.upto fnExactFillCountSpec)

/-- 'laws.FnExactMinDegreeOrder', WHERE WHAT IT READS IS OF BULK AT MOST 1048576: true; the input reads as it did. -/
def fnExactMinDegreeOrderUptoRow : OpenClaim := { program := "ytgmgdbnfmlmicaagreat", sum := "dd4a916e12c7e4ef02fa86763170243c4c7d65c7d2bdd25e30443445b6e2121a", func := "loop.example/g00810/laws.FnExactMinDegreeOrder", spec := "fnExactMinDegreeOrder", inPlace := ["math/bits.Add64"], unfollowed := true, recurses := true, named := ["math/bits.divideError", "math/bits.overflowError"], apart := false, narrowed := true }
def FnExactMinDegreeOrderUptoSaid : Prop := fnExactMinDegreeOrderUptoRow.holds Tryz.pinned (OpenSpec.upto fnExactMinDegreeOrderSpec)

/-- 'laws.FnExactEliminationTree', WHERE WHAT IT READS IS OF BULK AT MOST 1048576: true; the input reads as it did. -/
def fnExactEliminationTreeUptoRow : OpenClaim := { program := "ytgmgdbnfmlmicaagreat", sum := "dd4a916e12c7e4ef02fa86763170243c4c7d65c7d2bdd25e30443445b6e2121a", func := "loop.example/g00810/laws.FnExactEliminationTree", spec := "fnExactEliminationTree", inPlace := ["math/bits.Add64"], unfollowed := true, recurses := true, named := ["math/bits.divideError", "math/bits.overflowError"], apart := false, narrowed := true }
def FnExactEliminationTreeUptoSaid : Prop := fnExactEliminationTreeUptoRow.holds Tryz.pinned (OpenSpec.upto fnExactEliminationTreeSpec)

/-- 'laws.FnExactBestFill', WHERE WHAT IT READS IS OF BULK AT MOST 1048576: true; the input reads as it did. -/
def fnExactBestFillUptoRow : OpenClaim := { program := "ytgmgdbnfmlmicaagreat", sum := "dd4a916e12c7e4ef02fa86763170243c4c7d65c7d2bdd25e30443445b6e2121a", func := "loop.example/g00810/laws.FnExactBestFill", spec := "fnExactBestFill", inPlace := ["math/bits.Add64", "maps.clone"], unfollowed := true, recurses := true, named := ["math/bits.divideError", "math/bits.overflowError"], apart := false, narrowed := true }
def FnExactBestFillUptoSaid : Prop := fnExactBestFillUptoRow.holds Tryz.pinned (OpenSpec.upto fnExactBestFillSpec)

end Rows
end Go.Proofs.YtgmgdbnfmlmicaaGreat
