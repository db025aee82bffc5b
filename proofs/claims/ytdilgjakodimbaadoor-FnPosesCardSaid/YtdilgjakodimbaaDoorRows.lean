/-
  NARROWER THAN 'FOR EVERY INPUT', by the rows' own cells (each row's printed sentence says how): FnPoses: laid · FnExactFormatRat: laid · FnExactRotateXY: laid · FnExactCompose: laid · FnExactInverse: laid · FnExactBetween: laid · FnExactComposeAll: laid · FnExactFormatPose: laid · FnExactParsePose: laid.
  DERIVED. THE GIVEN ROWS OF THIS SEAT. 9 by the template 'for every input the law returns true; each argument reads behind the call as it read before'; 0 by the template 'total and deterministic' (their statements: YtdilgjakodimbaaDoorTotals.lean).
  GIVEN WITH THE SEED: the statements are not yours to turn. If you find one false, say at which input.
  Laid BY PROGRAM, IN A SANDBOX (cutbox-rows.mjs): the forced cells as the released guide's own fill.sh prints them over the translation 025e8aeb5739d393… (all of the seat's roots in one cut). By AI agents, Wed Nov 11 2026. No macro, syntax, notation, axiom, sorry.
-/
import Derived.Test.YtdilgjakodimbaaDoorChecked
import GoSem.Claim
import GoSem.ClaimJoined
import GoSem.ClaimMapViews
import Derived.JoinedTies
import Derived.KernelRfl
namespace Go.Proofs.YtdilgjakodimbaaDoor
/- THE CELL 'sum', in the pinned program and in every row, IS THE sha256 OF THE DUMP (.gsa) THAT YtdilgjakodimbaaDoorProg.lean LOADS. Nothing in Lean hashes anything: it is a label: what it is worth is what the hold of that sum in a sandbox is worth. -/
noncomputable def Tryd.pinned : Pinned := { name := "ytdilgjakodimbaadoor", sum := "025e8aeb5739d393041079872187ce04b6a41ba8ca63f00faf85527cd9f21b37", checked := Tryd.checked }
namespace Rows
def none {H : Type} : Left H := { results := [], args := [] }

/- WHAT THE LISTED PACKAGE-LEVEL VARIABLES READ AS WHEN THE CALL BEGINS. Each datum BY PROGRAM (the guide's laid-datum.mjs) off the statement by which the dump's own 'gosem.cut.vars' lays the variable. In a bare row this is a premise. The card (YtdilgjakodimbaaDoorCards.lean) ties it to the program's text. -/
def laid_math_bits_deBruijn32tab {H : Type} : DataW H := .agg [.lit (.int .u8 0), .lit (.int .u8 1), .lit (.int .u8 28), .lit (.int .u8 2), .lit (.int .u8 29), .lit (.int .u8 14), .lit (.int .u8 24), .lit (.int .u8 3), .lit (.int .u8 30), .lit (.int .u8 22), .lit (.int .u8 20), .lit (.int .u8 15), .lit (.int .u8 25), .lit (.int .u8 17), .lit (.int .u8 4), .lit (.int .u8 8), .lit (.int .u8 31), .lit (.int .u8 27), .lit (.int .u8 13), .lit (.int .u8 23), .lit (.int .u8 21), .lit (.int .u8 19), .lit (.int .u8 16), .lit (.int .u8 7), .lit (.int .u8 26), .lit (.int .u8 12), .lit (.int .u8 18), .lit (.int .u8 6), .lit (.int .u8 11), .lit (.int .u8 5), .lit (.int .u8 10), .lit (.int .u8 9)]
def laid_math_bits_deBruijn64tab {H : Type} : DataW H := .agg [.lit (.int .u8 0), .lit (.int .u8 1), .lit (.int .u8 56), .lit (.int .u8 2), .lit (.int .u8 57), .lit (.int .u8 49), .lit (.int .u8 28), .lit (.int .u8 3), .lit (.int .u8 61), .lit (.int .u8 58), .lit (.int .u8 42), .lit (.int .u8 50), .lit (.int .u8 38), .lit (.int .u8 29), .lit (.int .u8 17), .lit (.int .u8 4), .lit (.int .u8 62), .lit (.int .u8 47), .lit (.int .u8 59), .lit (.int .u8 36), .lit (.int .u8 45), .lit (.int .u8 43), .lit (.int .u8 51), .lit (.int .u8 22), .lit (.int .u8 53), .lit (.int .u8 39), .lit (.int .u8 33), .lit (.int .u8 30), .lit (.int .u8 24), .lit (.int .u8 18), .lit (.int .u8 12), .lit (.int .u8 5), .lit (.int .u8 63), .lit (.int .u8 55), .lit (.int .u8 48), .lit (.int .u8 27), .lit (.int .u8 60), .lit (.int .u8 41), .lit (.int .u8 37), .lit (.int .u8 16), .lit (.int .u8 46), .lit (.int .u8 35), .lit (.int .u8 44), .lit (.int .u8 21), .lit (.int .u8 52), .lit (.int .u8 32), .lit (.int .u8 23), .lit (.int .u8 11), .lit (.int .u8 54), .lit (.int .u8 26), .lit (.int .u8 40), .lit (.int .u8 15), .lit (.int .u8 34), .lit (.int .u8 20), .lit (.int .u8 31), .lit (.int .u8 10), .lit (.int .u8 25), .lit (.int .u8 14), .lit (.int .u8 19), .lit (.int .u8 9), .lit (.int .u8 13), .lit (.int .u8 8), .lit (.int .u8 7), .lit (.int .u8 6)]
def laid_internal_strconv_uint64pow10 {H : Type} : DataW H := .agg [.lit (.int .u64 1), .lit (.int .u64 10), .lit (.int .u64 100), .lit (.int .u64 1000), .lit (.int .u64 10000), .lit (.int .u64 100000), .lit (.int .u64 1000000), .lit (.int .u64 10000000), .lit (.int .u64 100000000), .lit (.int .u64 1000000000), .lit (.int .u64 10000000000), .lit (.int .u64 100000000000), .lit (.int .u64 1000000000000), .lit (.int .u64 10000000000000), .lit (.int .u64 100000000000000), .lit (.int .u64 1000000000000000), .lit (.int .u64 10000000000000000), .lit (.int .u64 100000000000000000), .lit (.int .u64 1000000000000000000), .lit (.int .u64 10000000000000000000)]
def laid_strconv_ErrRange {H : Type} : DataW H := .iface "*errors.errorString" (.ptr (.agg [.lit (.string [118, 97, 108, 117, 101, 32, 111, 117, 116, 32, 111, 102, 32, 114, 97, 110, 103, 101])]))
def laid_strconv_ErrSyntax {H : Type} : DataW H := .iface "*errors.errorString" (.ptr (.agg [.lit (.string [105, 110, 118, 97, 108, 105, 100, 32, 115, 121, 110, 116, 97, 120])]))
def laid_loop_example_g00810_impl_quarterTurns {H : Type} : DataW H := .agg [.agg [.agg [.lit (.int .i64 1), .lit (.int .i64 0)], .agg [.lit (.int .i64 0), .lit (.int .i64 1)]], .agg [.agg [.lit (.int .i64 0), .lit (.int .i64 1)], .agg [.lit (.int .i64 (-1)), .lit (.int .i64 0)]], .agg [.agg [.lit (.int .i64 (-1)), .lit (.int .i64 0)], .agg [.lit (.int .i64 0), .lit (.int .i64 (-1))]], .agg [.agg [.lit (.int .i64 0), .lit (.int .i64 (-1))], .agg [.lit (.int .i64 1), .lit (.int .i64 0)]]]

/-- 'laws.FnPoses': WHATEVER THE INPUT: true; the input reads as it did. -/
def fnPosesSpec : ChangeSpec := { name := "fnPoses", vars := ["loop.example/g00810/impl.quarterTurns"], fn := fun _ => fun
  | [d, g1] => { results := [.lit (.bool true)], args := [d], vars := [g1] }
  | _ => none }
def fnPosesRow : OpenClaim := { program := "ytdilgjakodimbaadoor", sum := "025e8aeb5739d393041079872187ce04b6a41ba8ca63f00faf85527cd9f21b37", func := "loop.example/g00810/laws.FnPoses", spec := "fnPoses", inPlace := ["internal/abi.NoEscape", "internal/bytealg.MakeNoZero", "internal/bytealg.IndexByteString", "internal/bytealg.IndexString"], named := ["internal/strconv.uint64pow10", "math/bits.deBruijn32tab", "math/bits.deBruijn64tab", "strconv.ErrSyntax", "strconv.ErrRange", "internal/bytealg.MaxLen", "loop.example/g00810/impl.quarterTurns"], apart := false, laid := [("math/bits.deBruijn32tab", laid_math_bits_deBruijn32tab), ("math/bits.deBruijn64tab", laid_math_bits_deBruijn64tab), ("internal/strconv.uint64pow10", laid_internal_strconv_uint64pow10), ("strconv.ErrRange", laid_strconv_ErrRange), ("strconv.ErrSyntax", laid_strconv_ErrSyntax), ("loop.example/g00810/impl.quarterTurns", laid_loop_example_g00810_impl_quarterTurns)] }
def FnPosesSaid : Prop := fnPosesRow.holds Tryd.pinned (OpenSpec.ofChange fnPosesSpec)

/-- ITS FALSE NEIGHBOUR: 'it returns false'. Refute it at one input. -/
def fnPosesWrong : ChangeSpec := { name := "fnPoses", vars := ["loop.example/g00810/impl.quarterTurns"], fn := fun _ => fun
  | [d, g1] => { results := [.lit (.bool false)], args := [d], vars := [g1] }
  | _ => none }
def FnPosesWrongFalsely : Prop := fnPosesRow.holds Tryd.pinned (OpenSpec.ofChange fnPosesWrong)

/-- 'laws.FnExactFormatRat': WHATEVER THE INPUT: true; the input reads as it did. -/
def fnExactFormatRatSpec : ChangeSpec := { name := "fnExactFormatRat", fn := fun _ => fun
  | [d] => { results := [.lit (.bool true)], args := [d] }
  | _ => none }
def fnExactFormatRatRow : OpenClaim := { program := "ytdilgjakodimbaadoor", sum := "025e8aeb5739d393041079872187ce04b6a41ba8ca63f00faf85527cd9f21b37", func := "loop.example/g00810/laws.FnExactFormatRat", spec := "fnExactFormatRat", inPlace := ["math/bits.Add64", "internal/abi.NoEscape", "internal/bytealg.MakeNoZero"], recurses := true, named := ["math/bits.divideError", "math/bits.overflowError", "internal/strconv.uint64pow10", "math/bits.deBruijn32tab", "math/bits.deBruijn64tab"], apart := false, laid := [("math/bits.deBruijn32tab", laid_math_bits_deBruijn32tab), ("math/bits.deBruijn64tab", laid_math_bits_deBruijn64tab), ("internal/strconv.uint64pow10", laid_internal_strconv_uint64pow10)] }
def FnExactFormatRatSaid : Prop := fnExactFormatRatRow.holds Tryd.pinned (OpenSpec.ofChange fnExactFormatRatSpec)

/-- ITS FALSE NEIGHBOUR: 'it returns false'. Refute it at one input. -/
def fnExactFormatRatWrong : ChangeSpec := { name := "fnExactFormatRat", fn := fun _ => fun
  | [d] => { results := [.lit (.bool false)], args := [d] }
  | _ => none }
def FnExactFormatRatWrongFalsely : Prop := fnExactFormatRatRow.holds Tryd.pinned (OpenSpec.ofChange fnExactFormatRatWrong)

/-- 'laws.FnExactRotateXY': WHATEVER THE INPUT: true; the input reads as it did. -/
def fnExactRotateXYSpec : ChangeSpec := { name := "fnExactRotateXY", vars := ["loop.example/g00810/impl.quarterTurns"], fn := fun _ => fun
  | [d1, d2, d3, g1] => { results := [.lit (.bool true)], args := [d1, d2, d3], vars := [g1] }
  | _ => none }
def fnExactRotateXYRow : OpenClaim := { program := "ytdilgjakodimbaadoor", sum := "025e8aeb5739d393041079872187ce04b6a41ba8ca63f00faf85527cd9f21b37", func := "loop.example/g00810/laws.FnExactRotateXY", spec := "fnExactRotateXY", named := ["loop.example/g00810/impl.quarterTurns"], apart := false, laid := [("loop.example/g00810/impl.quarterTurns", laid_loop_example_g00810_impl_quarterTurns)] }
def FnExactRotateXYSaid : Prop := fnExactRotateXYRow.holds Tryd.pinned (OpenSpec.ofChange fnExactRotateXYSpec)

/-- ITS FALSE NEIGHBOUR: 'it returns false'. Refute it at one input. -/
def fnExactRotateXYWrong : ChangeSpec := { name := "fnExactRotateXY", vars := ["loop.example/g00810/impl.quarterTurns"], fn := fun _ => fun
  | [d1, d2, d3, g1] => { results := [.lit (.bool false)], args := [d1, d2, d3], vars := [g1] }
  | _ => none }
def FnExactRotateXYWrongFalsely : Prop := fnExactRotateXYRow.holds Tryd.pinned (OpenSpec.ofChange fnExactRotateXYWrong)

/-- 'laws.FnExactCompose': WHATEVER THE INPUT: true; the input reads as it did. -/
def fnExactComposeSpec : ChangeSpec := { name := "fnExactCompose", vars := ["loop.example/g00810/impl.quarterTurns"], fn := fun _ => fun
  | [d1, d2, g1] => { results := [.lit (.bool true)], args := [d1, d2], vars := [g1] }
  | _ => none }
def fnExactComposeRow : OpenClaim := { program := "ytdilgjakodimbaadoor", sum := "025e8aeb5739d393041079872187ce04b6a41ba8ca63f00faf85527cd9f21b37", func := "loop.example/g00810/laws.FnExactCompose", spec := "fnExactCompose", named := ["loop.example/g00810/impl.quarterTurns"], apart := false, laid := [("loop.example/g00810/impl.quarterTurns", laid_loop_example_g00810_impl_quarterTurns)] }
def FnExactComposeSaid : Prop := fnExactComposeRow.holds Tryd.pinned (OpenSpec.ofChange fnExactComposeSpec)

/-- ITS FALSE NEIGHBOUR: 'it returns false'. Refute it at one input. -/
def fnExactComposeWrong : ChangeSpec := { name := "fnExactCompose", vars := ["loop.example/g00810/impl.quarterTurns"], fn := fun _ => fun
  | [d1, d2, g1] => { results := [.lit (.bool false)], args := [d1, d2], vars := [g1] }
  | _ => none }
def FnExactComposeWrongFalsely : Prop := fnExactComposeRow.holds Tryd.pinned (OpenSpec.ofChange fnExactComposeWrong)

/-- 'laws.FnExactInverse': WHATEVER THE INPUT: true; the input reads as it did. -/
def fnExactInverseSpec : ChangeSpec := { name := "fnExactInverse", vars := ["loop.example/g00810/impl.quarterTurns"], fn := fun _ => fun
  | [d, g1] => { results := [.lit (.bool true)], args := [d], vars := [g1] }
  | _ => none }
def fnExactInverseRow : OpenClaim := { program := "ytdilgjakodimbaadoor", sum := "025e8aeb5739d393041079872187ce04b6a41ba8ca63f00faf85527cd9f21b37", func := "loop.example/g00810/laws.FnExactInverse", spec := "fnExactInverse", named := ["loop.example/g00810/impl.quarterTurns"], apart := false, laid := [("loop.example/g00810/impl.quarterTurns", laid_loop_example_g00810_impl_quarterTurns)] }
def FnExactInverseSaid : Prop := fnExactInverseRow.holds Tryd.pinned (OpenSpec.ofChange fnExactInverseSpec)

/-- ITS FALSE NEIGHBOUR: 'it returns false'. Refute it at one input. -/
def fnExactInverseWrong : ChangeSpec := { name := "fnExactInverse", vars := ["loop.example/g00810/impl.quarterTurns"], fn := fun _ => fun
  | [d, g1] => { results := [.lit (.bool false)], args := [d], vars := [g1] }
  | _ => none }
def FnExactInverseWrongFalsely : Prop := fnExactInverseRow.holds Tryd.pinned (OpenSpec.ofChange fnExactInverseWrong)

/-- 'laws.FnExactBetween': WHATEVER THE INPUT: true; the input reads as it did. -/
def fnExactBetweenSpec : ChangeSpec := { name := "fnExactBetween", vars := ["loop.example/g00810/impl.quarterTurns"], fn := fun _ => fun
  | [d1, d2, g1] => { results := [.lit (.bool true)], args := [d1, d2], vars := [g1] }
  | _ => none }
def fnExactBetweenRow : OpenClaim := { program := "ytdilgjakodimbaadoor", sum := "025e8aeb5739d393041079872187ce04b6a41ba8ca63f00faf85527cd9f21b37", func := "loop.example/g00810/laws.FnExactBetween", spec := "fnExactBetween", named := ["loop.example/g00810/impl.quarterTurns"], apart := false, laid := [("loop.example/g00810/impl.quarterTurns", laid_loop_example_g00810_impl_quarterTurns)] }
def FnExactBetweenSaid : Prop := fnExactBetweenRow.holds Tryd.pinned (OpenSpec.ofChange fnExactBetweenSpec)

/-- ITS FALSE NEIGHBOUR: 'it returns false'. Refute it at one input. -/
def fnExactBetweenWrong : ChangeSpec := { name := "fnExactBetween", vars := ["loop.example/g00810/impl.quarterTurns"], fn := fun _ => fun
  | [d1, d2, g1] => { results := [.lit (.bool false)], args := [d1, d2], vars := [g1] }
  | _ => none }
def FnExactBetweenWrongFalsely : Prop := fnExactBetweenRow.holds Tryd.pinned (OpenSpec.ofChange fnExactBetweenWrong)

/-- 'laws.FnExactComposeAll': WHATEVER THE INPUT: true; the input reads as it did. -/
def fnExactComposeAllSpec : ChangeSpec := { name := "fnExactComposeAll", vars := ["loop.example/g00810/impl.quarterTurns"], fn := fun _ => fun
  | [d, g1] => { results := [.lit (.bool true)], args := [d], vars := [g1] }
  | _ => none }
def fnExactComposeAllRow : OpenClaim := { program := "ytdilgjakodimbaadoor", sum := "025e8aeb5739d393041079872187ce04b6a41ba8ca63f00faf85527cd9f21b37", func := "loop.example/g00810/laws.FnExactComposeAll", spec := "fnExactComposeAll", named := ["loop.example/g00810/impl.quarterTurns"], apart := false, laid := [("loop.example/g00810/impl.quarterTurns", laid_loop_example_g00810_impl_quarterTurns)] }
def FnExactComposeAllSaid : Prop := fnExactComposeAllRow.holds Tryd.pinned (OpenSpec.ofChange fnExactComposeAllSpec)

/-- ITS FALSE NEIGHBOUR: 'it returns false'. Refute it at one input. -/
def fnExactComposeAllWrong : ChangeSpec := { name := "fnExactComposeAll", vars := ["loop.example/g00810/impl.quarterTurns"], fn := fun _ => fun
  | [d, g1] => { results := [.lit (.bool false)], args := [d], vars := [g1] }
  | _ => none }
def FnExactComposeAllWrongFalsely : Prop := fnExactComposeAllRow.holds Tryd.pinned (OpenSpec.ofChange fnExactComposeAllWrong)

/-- 'laws.FnExactFormatPose': WHATEVER THE INPUT: true; the input reads as it did. -/
def fnExactFormatPoseSpec : ChangeSpec := { name := "fnExactFormatPose", fn := fun _ => fun
  | [d] => { results := [.lit (.bool true)], args := [d] }
  | _ => none }
def fnExactFormatPoseRow : OpenClaim := { program := "ytdilgjakodimbaadoor", sum := "025e8aeb5739d393041079872187ce04b6a41ba8ca63f00faf85527cd9f21b37", func := "loop.example/g00810/laws.FnExactFormatPose", spec := "fnExactFormatPose", inPlace := ["internal/abi.NoEscape", "internal/bytealg.MakeNoZero"], recurses := true, named := ["internal/strconv.uint64pow10", "math/bits.deBruijn32tab", "math/bits.deBruijn64tab"], apart := false, laid := [("math/bits.deBruijn32tab", laid_math_bits_deBruijn32tab), ("math/bits.deBruijn64tab", laid_math_bits_deBruijn64tab), ("internal/strconv.uint64pow10", laid_internal_strconv_uint64pow10)] }
def FnExactFormatPoseSaid : Prop := fnExactFormatPoseRow.holds Tryd.pinned (OpenSpec.ofChange fnExactFormatPoseSpec)

/-- ITS FALSE NEIGHBOUR: 'it returns false'. Refute it at one input. -/
def fnExactFormatPoseWrong : ChangeSpec := { name := "fnExactFormatPose", fn := fun _ => fun
  | [d] => { results := [.lit (.bool false)], args := [d] }
  | _ => none }
def FnExactFormatPoseWrongFalsely : Prop := fnExactFormatPoseRow.holds Tryd.pinned (OpenSpec.ofChange fnExactFormatPoseWrong)

/-- 'laws.FnExactParsePose': WHATEVER THE INPUT: true; the input reads as it did. -/
def fnExactParsePoseSpec : ChangeSpec := { name := "fnExactParsePose", fn := fun _ => fun
  | [d] => { results := [.lit (.bool true)], args := [d] }
  | _ => none }
def fnExactParsePoseRow : OpenClaim := { program := "ytdilgjakodimbaadoor", sum := "025e8aeb5739d393041079872187ce04b6a41ba8ca63f00faf85527cd9f21b37", func := "loop.example/g00810/laws.FnExactParsePose", spec := "fnExactParsePose", inPlace := ["internal/bytealg.IndexByteString", "internal/bytealg.IndexString"], recurses := true, named := ["strconv.ErrSyntax", "strconv.ErrRange", "internal/strconv.uint64pow10", "math/bits.deBruijn32tab", "math/bits.deBruijn64tab", "internal/bytealg.MaxLen"], apart := false, laid := [("math/bits.deBruijn32tab", laid_math_bits_deBruijn32tab), ("math/bits.deBruijn64tab", laid_math_bits_deBruijn64tab), ("internal/strconv.uint64pow10", laid_internal_strconv_uint64pow10), ("strconv.ErrRange", laid_strconv_ErrRange), ("strconv.ErrSyntax", laid_strconv_ErrSyntax)] }
def FnExactParsePoseSaid : Prop := fnExactParsePoseRow.holds Tryd.pinned (OpenSpec.ofChange fnExactParsePoseSpec)

/-- ITS FALSE NEIGHBOUR: 'it returns false'. Refute it at one input. -/
def fnExactParsePoseWrong : ChangeSpec := { name := "fnExactParsePose", fn := fun _ => fun
  | [d] => { results := [.lit (.bool false)], args := [d] }
  | _ => none }
def FnExactParsePoseWrongFalsely : Prop := fnExactParsePoseRow.holds Tryd.pinned (OpenSpec.ofChange fnExactParsePoseWrong)

/- THE SECOND FORM. 'bulk': how many values and letters a reading holds, each counted each time it is reached (what is shared counts as often as it is met; a slice's spare places count too). A statement '..UptoSaid' is the law's where the arguments, and the package variables that the reading takes, are together of bulk at most 1048576: NARROWER than '..Said'. Prove '..Said' where nothing that the law and all that it calls make is longer than what came in: it says more and counts as full. Else prove '..UptoSaid'. A law counts once. -/
mutual
def uptoBulk {H : Type} : DataW H → Nat
  | .lit (.string bytes) => bytes.length + 1
  | .lit _ => 1
  | .nil => 1
  | .ptr d => uptoBulk d + 1
  | .slice elems spare => uptoBulkAll elems + uptoBulkAll spare + 1
  | .agg parts => uptoBulkAll parts + 1
  | .iface _ d => uptoBulk d + 1
  | .map entries => uptoBulkEntries entries + 1
  | .held _ => 1
def uptoBulkAll {H : Type} : List (DataW H) → Nat
  | [] => 0
  | d :: r => uptoBulk d + uptoBulkAll r
def uptoBulkEntries {H : Type} : List (Lit × DataW H) → Nat
  | [] => 0
  | x :: r => uptoBulkEntry x + uptoBulkEntries r
def uptoBulkEntry {H : Type} : Lit × DataW H → Nat
  | (.string bytes, d) => bytes.length + uptoBulk d + 1
  | (_, d) => uptoBulk d + 1
 end
def uptoSmall : (H : Type) → List (DataW H) → Bool := fun _ ds => decide (uptoBulkAll ds ≤ 1048576)
def OpenSpec.upto (s : _root_.Go.ChangeSpec) : _root_.Go.OpenSpec := { _root_.Go.OpenSpec.ofChange s with cond := some uptoSmall }

/-- 'laws.FnPoses', WHERE WHAT IT READS IS OF BULK AT MOST 1048576: true; the input reads as it did. -/
def fnPosesUptoRow : OpenClaim := { program := "ytdilgjakodimbaadoor", sum := "025e8aeb5739d393041079872187ce04b6a41ba8ca63f00faf85527cd9f21b37", func := "loop.example/g00810/laws.FnPoses", spec := "fnPoses", inPlace := ["internal/abi.NoEscape", "internal/bytealg.MakeNoZero", "internal/bytealg.IndexByteString", "internal/bytealg.IndexString"], named := ["internal/strconv.uint64pow10", "math/bits.deBruijn32tab", "math/bits.deBruijn64tab", "strconv.ErrSyntax", "strconv.ErrRange", "internal/bytealg.MaxLen", "loop.example/g00810/impl.quarterTurns"], apart := false, laid := [("math/bits.deBruijn32tab", laid_math_bits_deBruijn32tab), ("math/bits.deBruijn64tab", laid_math_bits_deBruijn64tab), ("internal/strconv.uint64pow10", laid_internal_strconv_uint64pow10), ("strconv.ErrRange", laid_strconv_ErrRange), ("strconv.ErrSyntax", laid_strconv_ErrSyntax), ("loop.example/g00810/impl.quarterTurns", laid_loop_example_g00810_impl_quarterTurns)], narrowed := true }
def FnPosesUptoSaid : Prop := fnPosesUptoRow.holds Tryd.pinned (OpenSpec.upto fnPosesSpec)

/-- 'laws.FnExactFormatRat', WHERE WHAT IT READS IS OF BULK AT MOST 1048576: true; the input reads as it did. -/
def fnExactFormatRatUptoRow : OpenClaim := { program := "ytdilgjakodimbaadoor", sum := "025e8aeb5739d393041079872187ce04b6a41ba8ca63f00faf85527cd9f21b37", func := "loop.example/g00810/laws.FnExactFormatRat", spec := "fnExactFormatRat", inPlace := ["math/bits.Add64", "internal/abi.NoEscape", "internal/bytealg.MakeNoZero"], recurses := true, named := ["math/bits.divideError", "math/bits.overflowError", "internal/strconv.uint64pow10", "math/bits.deBruijn32tab", "math/bits.deBruijn64tab"], apart := false, laid := [("math/bits.deBruijn32tab", laid_math_bits_deBruijn32tab), ("math/bits.deBruijn64tab", laid_math_bits_deBruijn64tab), ("internal/strconv.uint64pow10", laid_internal_strconv_uint64pow10)], narrowed := true }
def FnExactFormatRatUptoSaid : Prop := fnExactFormatRatUptoRow.holds Tryd.pinned (OpenSpec.upto fnExactFormatRatSpec)

/-- 'laws.FnExactRotateXY', WHERE WHAT IT READS IS OF BULK AT MOST 1048576: true; the input reads as it did. -/
def fnExactRotateXYUptoRow : OpenClaim := { program := "ytdilgjakodimbaadoor", sum := "025e8aeb5739d393041079872187ce04b6a41ba8ca63f00faf85527cd9f21b37", func := "loop.example/g00810/laws.FnExactRotateXY", spec := "fnExactRotateXY", named := ["loop.example/g00810/impl.quarterTurns"], apart := false, laid := [("loop.example/g00810/impl.quarterTurns", laid_loop_example_g00810_impl_quarterTurns)], narrowed := true }
def FnExactRotateXYUptoSaid : Prop := fnExactRotateXYUptoRow.holds Tryd.pinned (OpenSpec.upto fnExactRotateXYSpec)

/-- 'laws.FnExactCompose', WHERE WHAT IT READS IS OF BULK AT MOST 1048576: true; the input reads as it did. -/
def fnExactComposeUptoRow : OpenClaim := { program := "ytdilgjakodimbaadoor", sum := "025e8aeb5739d393041079872187ce04b6a41ba8ca63f00faf85527cd9f21b37", func := "loop.example/g00810/laws.FnExactCompose", spec := "fnExactCompose", named := ["loop.example/g00810/impl.quarterTurns"], apart := false, laid := [("loop.example/g00810/impl.quarterTurns", laid_loop_example_g00810_impl_quarterTurns)], narrowed := true }
def FnExactComposeUptoSaid : Prop := fnExactComposeUptoRow.holds Tryd.pinned (OpenSpec.upto fnExactComposeSpec)

/-- 'laws.FnExactInverse', WHERE WHAT IT READS IS OF BULK AT MOST 1048576: true; the input reads as it did. -/
def fnExactInverseUptoRow : OpenClaim := { program := "ytdilgjakodimbaadoor", sum := "025e8aeb5739d393041079872187ce04b6a41ba8ca63f00faf85527cd9f21b37", func := "loop.example/g00810/laws.FnExactInverse", spec := "fnExactInverse", named := ["loop.example/g00810/impl.quarterTurns"], apart := false, laid := [("loop.example/g00810/impl.quarterTurns", laid_loop_example_g00810_impl_quarterTurns)], narrowed := true }
def FnExactInverseUptoSaid : Prop := fnExactInverseUptoRow.holds Tryd.pinned (OpenSpec.upto fnExactInverseSpec)

/-- 'laws.FnExactBetween', WHERE WHAT IT READS IS OF BULK AT MOST 1048576: true; the input reads as it did. -/
def fnExactBetweenUptoRow : OpenClaim := { program := "ytdilgjakodimbaadoor", sum := "025e8aeb5739d393041079872187ce04b6a41ba8ca63f00faf85527cd9f21b37", func := "loop.example/g00810/laws.FnExactBetween", spec := "fnExactBetween", named := ["loop.example/g00810/impl.quarterTurns"], apart := false, laid := [("loop.example/g00810/impl.quarterTurns", laid_loop_example_g00810_impl_quarterTurns)], narrowed := true }
def FnExactBetweenUptoSaid : Prop := fnExactBetweenUptoRow.holds Tryd.pinned (OpenSpec.upto fnExactBetweenSpec)

/-- 'laws.FnExactComposeAll', WHERE WHAT IT READS IS OF BULK AT MOST 1048576: true; the input reads as it did. -/
def fnExactComposeAllUptoRow : OpenClaim := { program := "ytdilgjakodimbaadoor", sum := "025e8aeb5739d393041079872187ce04b6a41ba8ca63f00faf85527cd9f21b37", func := "loop.example/g00810/laws.FnExactComposeAll", spec := "fnExactComposeAll", named := ["loop.example/g00810/impl.quarterTurns"], apart := false, laid := [("loop.example/g00810/impl.quarterTurns", laid_loop_example_g00810_impl_quarterTurns)], narrowed := true }
def FnExactComposeAllUptoSaid : Prop := fnExactComposeAllUptoRow.holds Tryd.pinned (OpenSpec.upto fnExactComposeAllSpec)

/-- 'laws.FnExactFormatPose', WHERE WHAT IT READS IS OF BULK AT MOST 1048576: true; the input reads as it did. -/
def fnExactFormatPoseUptoRow : OpenClaim := { program := "ytdilgjakodimbaadoor", sum := "025e8aeb5739d393041079872187ce04b6a41ba8ca63f00faf85527cd9f21b37", func := "loop.example/g00810/laws.FnExactFormatPose", spec := "fnExactFormatPose", inPlace := ["internal/abi.NoEscape", "internal/bytealg.MakeNoZero"], recurses := true, named := ["internal/strconv.uint64pow10", "math/bits.deBruijn32tab", "math/bits.deBruijn64tab"], apart := false, laid := [("math/bits.deBruijn32tab", laid_math_bits_deBruijn32tab), ("math/bits.deBruijn64tab", laid_math_bits_deBruijn64tab), ("internal/strconv.uint64pow10", laid_internal_strconv_uint64pow10)], narrowed := true }
def FnExactFormatPoseUptoSaid : Prop := fnExactFormatPoseUptoRow.holds Tryd.pinned (OpenSpec.upto fnExactFormatPoseSpec)

/-- 'laws.FnExactParsePose', WHERE WHAT IT READS IS OF BULK AT MOST 1048576: true; the input reads as it did. -/
def fnExactParsePoseUptoRow : OpenClaim := { program := "ytdilgjakodimbaadoor", sum := "025e8aeb5739d393041079872187ce04b6a41ba8ca63f00faf85527cd9f21b37", func := "loop.example/g00810/laws.FnExactParsePose", spec := "fnExactParsePose", inPlace := ["internal/bytealg.IndexByteString", "internal/bytealg.IndexString"], recurses := true, named := ["strconv.ErrSyntax", "strconv.ErrRange", "internal/strconv.uint64pow10", "math/bits.deBruijn32tab", "math/bits.deBruijn64tab", "internal/bytealg.MaxLen"], apart := false, laid := [("math/bits.deBruijn32tab", laid_math_bits_deBruijn32tab), ("math/bits.deBruijn64tab", laid_math_bits_deBruijn64tab), ("internal/strconv.uint64pow10", laid_internal_strconv_uint64pow10), ("strconv.ErrRange", laid_strconv_ErrRange), ("strconv.ErrSyntax", laid_strconv_ErrSyntax)], narrowed := true }
def FnExactParsePoseUptoSaid : Prop := fnExactParsePoseUptoRow.holds Tryd.pinned (OpenSpec.upto fnExactParsePoseSpec)

end Rows
end Go.Proofs.YtdilgjakodimbaaDoor
