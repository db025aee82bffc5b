/-
  DERIVED. GIVEN WITH THE SEED: THE CARDS: each row of YtdilgjakodimbaaDoorRows.lean that lists a variable, with what it lists TIED to the program's text (the seventh form; the later family's looks); each row that meets fmt, with fmt's text TOLD by the authors' own Lean function (tested against real Go, not proved from fmt's source: count such statements apart). THE CARD IS WHAT COUNTS. Prove the row's statement (the work); the ties are given (YtdilgjakodimbaaDoorTie.lean); close each card by the builder's one call (the guide's Derived/Test/ToyasCard.lean, 'card_holds'). Laid BY PROGRAM, IN A SANDBOX (cutbox-door.mjs). By AI agents, Wed Nov 11 2026. No macro, syntax, notation, axiom, sorry.
-/
import Derived.Test.YtdilgjakodimbaaDoorRows
import GoSem.ClaimSeven
namespace Go.Proofs.YtdilgjakodimbaaDoor
namespace Rows

/-- THE TIED CARD OF 'laws.FnPoses'. -/
def fnPosesCard : Claim7 := { stood := { row := fnPosesRow, standIns := [], harness := (true, "49dc16c195214d18f32f0d0e2af27782907544120f44ec4e732deecaf02b8adb"), looks := true }, kinds := [], alts := [], laidByText := true, laidKinds := [.data, .data, .data, .sentinel, .sentinel, .wider], laidTests := true, laidLooks := .later }
def FnPosesCardSaid : Prop := Claim7.holds Tryd.pinned (.plain (OpenSpec.ofChange fnPosesSpec)) fnPosesCard

/-- THE TIED CARD OF 'laws.FnExactFormatRat'. -/
def fnExactFormatRatCard : Claim7 := { stood := { row := fnExactFormatRatRow, standIns := [], harness := (true, "49dc16c195214d18f32f0d0e2af27782907544120f44ec4e732deecaf02b8adb"), looks := true }, kinds := [], alts := [], laidByText := true, laidKinds := [.data, .data, .data], laidTests := true, laidLooks := .later }
def FnExactFormatRatCardSaid : Prop := Claim7.holds Tryd.pinned (.plain (OpenSpec.ofChange fnExactFormatRatSpec)) fnExactFormatRatCard

/-- THE TIED CARD OF 'laws.FnExactRotateXY'. -/
def fnExactRotateXYCard : Claim7 := { stood := { row := fnExactRotateXYRow, standIns := [], harness := (true, "49dc16c195214d18f32f0d0e2af27782907544120f44ec4e732deecaf02b8adb"), looks := true }, kinds := [], alts := [], laidByText := true, laidKinds := [.wider], laidTests := true, laidLooks := .later }
def FnExactRotateXYCardSaid : Prop := Claim7.holds Tryd.pinned (.plain (OpenSpec.ofChange fnExactRotateXYSpec)) fnExactRotateXYCard

/-- THE TIED CARD OF 'laws.FnExactCompose'. -/
def fnExactComposeCard : Claim7 := { stood := { row := fnExactComposeRow, standIns := [], harness := (true, "49dc16c195214d18f32f0d0e2af27782907544120f44ec4e732deecaf02b8adb"), looks := true }, kinds := [], alts := [], laidByText := true, laidKinds := [.wider], laidTests := true, laidLooks := .later }
def FnExactComposeCardSaid : Prop := Claim7.holds Tryd.pinned (.plain (OpenSpec.ofChange fnExactComposeSpec)) fnExactComposeCard

/-- THE TIED CARD OF 'laws.FnExactInverse'. -/
def fnExactInverseCard : Claim7 := { stood := { row := fnExactInverseRow, standIns := [], harness := (true, "49dc16c195214d18f32f0d0e2af27782907544120f44ec4e732deecaf02b8adb"), looks := true }, kinds := [], alts := [], laidByText := true, laidKinds := [.wider], laidTests := true, laidLooks := .later }
def FnExactInverseCardSaid : Prop := Claim7.holds Tryd.pinned (.plain (OpenSpec.ofChange fnExactInverseSpec)) fnExactInverseCard

/-- THE TIED CARD OF 'laws.FnExactBetween'. -/
def fnExactBetweenCard : Claim7 := { stood := { row := fnExactBetweenRow, standIns := [], harness := (true, "49dc16c195214d18f32f0d0e2af27782907544120f44ec4e732deecaf02b8adb"), looks := true }, kinds := [], alts := [], laidByText := true, laidKinds := [.wider], laidTests := true, laidLooks := .later }
def FnExactBetweenCardSaid : Prop := Claim7.holds Tryd.pinned (.plain (OpenSpec.ofChange fnExactBetweenSpec)) fnExactBetweenCard

/-- THE TIED CARD OF 'laws.FnExactComposeAll'. -/
def fnExactComposeAllCard : Claim7 := { stood := { row := fnExactComposeAllRow, standIns := [], harness := (true, "49dc16c195214d18f32f0d0e2af27782907544120f44ec4e732deecaf02b8adb"), looks := true }, kinds := [], alts := [], laidByText := true, laidKinds := [.wider], laidTests := true, laidLooks := .later }
def FnExactComposeAllCardSaid : Prop := Claim7.holds Tryd.pinned (.plain (OpenSpec.ofChange fnExactComposeAllSpec)) fnExactComposeAllCard

/-- THE TIED CARD OF 'laws.FnExactFormatPose'. -/
def fnExactFormatPoseCard : Claim7 := { stood := { row := fnExactFormatPoseRow, standIns := [], harness := (true, "49dc16c195214d18f32f0d0e2af27782907544120f44ec4e732deecaf02b8adb"), looks := true }, kinds := [], alts := [], laidByText := true, laidKinds := [.data, .data, .data], laidTests := true, laidLooks := .later }
def FnExactFormatPoseCardSaid : Prop := Claim7.holds Tryd.pinned (.plain (OpenSpec.ofChange fnExactFormatPoseSpec)) fnExactFormatPoseCard

/-- THE TIED CARD OF 'laws.FnExactParsePose'. -/
def fnExactParsePoseCard : Claim7 := { stood := { row := fnExactParsePoseRow, standIns := [], harness := (true, "49dc16c195214d18f32f0d0e2af27782907544120f44ec4e732deecaf02b8adb"), looks := true }, kinds := [], alts := [], laidByText := true, laidKinds := [.data, .data, .data, .sentinel, .sentinel], laidTests := true, laidLooks := .later }
def FnExactParsePoseCardSaid : Prop := Claim7.holds Tryd.pinned (.plain (OpenSpec.ofChange fnExactParsePoseSpec)) fnExactParsePoseCard

/-- THE SECOND FORM's CARD OF 'laws.FnPoses'. -/
def fnPosesUptoCard : Claim7 := { stood := { row := fnPosesUptoRow, standIns := [], harness := (true, "49dc16c195214d18f32f0d0e2af27782907544120f44ec4e732deecaf02b8adb"), looks := true }, kinds := [], alts := [], laidByText := true, laidKinds := [.data, .data, .data, .sentinel, .sentinel, .wider], laidTests := true, laidLooks := .later }
def FnPosesUptoCardSaid : Prop := Claim7.holds Tryd.pinned (.plain (OpenSpec.upto fnPosesSpec)) fnPosesUptoCard

/-- THE SECOND FORM's CARD OF 'laws.FnExactFormatRat'. -/
def fnExactFormatRatUptoCard : Claim7 := { stood := { row := fnExactFormatRatUptoRow, standIns := [], harness := (true, "49dc16c195214d18f32f0d0e2af27782907544120f44ec4e732deecaf02b8adb"), looks := true }, kinds := [], alts := [], laidByText := true, laidKinds := [.data, .data, .data], laidTests := true, laidLooks := .later }
def FnExactFormatRatUptoCardSaid : Prop := Claim7.holds Tryd.pinned (.plain (OpenSpec.upto fnExactFormatRatSpec)) fnExactFormatRatUptoCard

/-- THE SECOND FORM's CARD OF 'laws.FnExactRotateXY'. -/
def fnExactRotateXYUptoCard : Claim7 := { stood := { row := fnExactRotateXYUptoRow, standIns := [], harness := (true, "49dc16c195214d18f32f0d0e2af27782907544120f44ec4e732deecaf02b8adb"), looks := true }, kinds := [], alts := [], laidByText := true, laidKinds := [.wider], laidTests := true, laidLooks := .later }
def FnExactRotateXYUptoCardSaid : Prop := Claim7.holds Tryd.pinned (.plain (OpenSpec.upto fnExactRotateXYSpec)) fnExactRotateXYUptoCard

/-- THE SECOND FORM's CARD OF 'laws.FnExactCompose'. -/
def fnExactComposeUptoCard : Claim7 := { stood := { row := fnExactComposeUptoRow, standIns := [], harness := (true, "49dc16c195214d18f32f0d0e2af27782907544120f44ec4e732deecaf02b8adb"), looks := true }, kinds := [], alts := [], laidByText := true, laidKinds := [.wider], laidTests := true, laidLooks := .later }
def FnExactComposeUptoCardSaid : Prop := Claim7.holds Tryd.pinned (.plain (OpenSpec.upto fnExactComposeSpec)) fnExactComposeUptoCard

/-- THE SECOND FORM's CARD OF 'laws.FnExactInverse'. -/
def fnExactInverseUptoCard : Claim7 := { stood := { row := fnExactInverseUptoRow, standIns := [], harness := (true, "49dc16c195214d18f32f0d0e2af27782907544120f44ec4e732deecaf02b8adb"), looks := true }, kinds := [], alts := [], laidByText := true, laidKinds := [.wider], laidTests := true, laidLooks := .later }
def FnExactInverseUptoCardSaid : Prop := Claim7.holds Tryd.pinned (.plain (OpenSpec.upto fnExactInverseSpec)) fnExactInverseUptoCard

/-- THE SECOND FORM's CARD OF 'laws.FnExactBetween'. -/
def fnExactBetweenUptoCard : Claim7 := { stood := { row := fnExactBetweenUptoRow, standIns := [], harness := (true, "49dc16c195214d18f32f0d0e2af27782907544120f44ec4e732deecaf02b8adb"), looks := true }, kinds := [], alts := [], laidByText := true, laidKinds := [.wider], laidTests := true, laidLooks := .later }
def FnExactBetweenUptoCardSaid : Prop := Claim7.holds Tryd.pinned (.plain (OpenSpec.upto fnExactBetweenSpec)) fnExactBetweenUptoCard

/-- THE SECOND FORM's CARD OF 'laws.FnExactComposeAll'. -/
def fnExactComposeAllUptoCard : Claim7 := { stood := { row := fnExactComposeAllUptoRow, standIns := [], harness := (true, "49dc16c195214d18f32f0d0e2af27782907544120f44ec4e732deecaf02b8adb"), looks := true }, kinds := [], alts := [], laidByText := true, laidKinds := [.wider], laidTests := true, laidLooks := .later }
def FnExactComposeAllUptoCardSaid : Prop := Claim7.holds Tryd.pinned (.plain (OpenSpec.upto fnExactComposeAllSpec)) fnExactComposeAllUptoCard

/-- THE SECOND FORM's CARD OF 'laws.FnExactFormatPose'. -/
def fnExactFormatPoseUptoCard : Claim7 := { stood := { row := fnExactFormatPoseUptoRow, standIns := [], harness := (true, "49dc16c195214d18f32f0d0e2af27782907544120f44ec4e732deecaf02b8adb"), looks := true }, kinds := [], alts := [], laidByText := true, laidKinds := [.data, .data, .data], laidTests := true, laidLooks := .later }
def FnExactFormatPoseUptoCardSaid : Prop := Claim7.holds Tryd.pinned (.plain (OpenSpec.upto fnExactFormatPoseSpec)) fnExactFormatPoseUptoCard

/-- THE SECOND FORM's CARD OF 'laws.FnExactParsePose'. -/
def fnExactParsePoseUptoCard : Claim7 := { stood := { row := fnExactParsePoseUptoRow, standIns := [], harness := (true, "49dc16c195214d18f32f0d0e2af27782907544120f44ec4e732deecaf02b8adb"), looks := true }, kinds := [], alts := [], laidByText := true, laidKinds := [.data, .data, .data, .sentinel, .sentinel], laidTests := true, laidLooks := .later }
def FnExactParsePoseUptoCardSaid : Prop := Claim7.holds Tryd.pinned (.plain (OpenSpec.upto fnExactParsePoseSpec)) fnExactParsePoseUptoCard
end Rows
end Go.Proofs.YtdilgjakodimbaaDoor
