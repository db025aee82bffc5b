/-
  DERIVED. GIVEN WITH THE SEED: THE CARDS: each row of YthijfjjeklmemaaDoorRows.lean that lists a variable, with what it lists TIED to the program's text (the seventh form; the later family's looks); each row that meets fmt, with fmt's text TOLD by the authors' own Lean function (tested against real Go, not proved from fmt's source: count such statements apart). THE CARD IS WHAT COUNTS. Prove the row's statement (the work); the ties are given (YthijfjjeklmemaaDoorTie.lean); close each card by the builder's one call (the guide's Derived/Test/ToyasCard.lean, 'card_holds'). Laid BY PROGRAM, IN A SANDBOX (cutbox-door.mjs). By AI agents, Wed Nov 11 2026. No macro, syntax, notation, axiom, sorry.
-/
import Derived.Test.YthijfjjeklmemaaDoorRows
import GoSem.ClaimSeven
namespace Go.Proofs.YthijfjjeklmemaaDoor
namespace Rows

/-- THE TIED CARD OF 'laws.FnExactFormatBigInt'. -/
def fnExactFormatBigIntCard : Claim7 := { stood := { row := fnExactFormatBigIntRow, standIns := [], harness := (true, "aff2462aa799d02bcb77f01b8fcf294a7aeae02920d1a650c3b014ad970022c3"), looks := true }, kinds := [], alts := [], laidByText := true, laidKinds := [.data, .data, .data], laidTests := true, laidLooks := .later }
def FnExactFormatBigIntCardSaid : Prop := Claim7.holds Tryd.pinned (.plain (OpenSpec.ofChange fnExactFormatBigIntSpec)) fnExactFormatBigIntCard

/-- THE TIED CARD OF 'laws.FnExactParseBigInt'. -/
def fnExactParseBigIntCard : Claim7 := { stood := { row := fnExactParseBigIntRow, standIns := [], harness := (true, "aff2462aa799d02bcb77f01b8fcf294a7aeae02920d1a650c3b014ad970022c3"), looks := true }, kinds := [], alts := [], laidByText := true, laidKinds := [.data, .data, .data, .sentinel, .sentinel], laidTests := true, laidLooks := .later }
def FnExactParseBigIntCardSaid : Prop := Claim7.holds Tryd.pinned (.plain (OpenSpec.ofChange fnExactParseBigIntSpec)) fnExactParseBigIntCard

/-- THE SECOND FORM's CARD OF 'laws.FnExactFormatBigInt'. -/
def fnExactFormatBigIntUptoCard : Claim7 := { stood := { row := fnExactFormatBigIntUptoRow, standIns := [], harness := (true, "aff2462aa799d02bcb77f01b8fcf294a7aeae02920d1a650c3b014ad970022c3"), looks := true }, kinds := [], alts := [], laidByText := true, laidKinds := [.data, .data, .data], laidTests := true, laidLooks := .later }
def FnExactFormatBigIntUptoCardSaid : Prop := Claim7.holds Tryd.pinned (.plain (OpenSpec.upto fnExactFormatBigIntSpec)) fnExactFormatBigIntUptoCard

/-- THE SECOND FORM's CARD OF 'laws.FnExactParseBigInt'. -/
def fnExactParseBigIntUptoCard : Claim7 := { stood := { row := fnExactParseBigIntUptoRow, standIns := [], harness := (true, "aff2462aa799d02bcb77f01b8fcf294a7aeae02920d1a650c3b014ad970022c3"), looks := true }, kinds := [], alts := [], laidByText := true, laidKinds := [.data, .data, .data, .sentinel, .sentinel], laidTests := true, laidLooks := .later }
def FnExactParseBigIntUptoCardSaid : Prop := Claim7.holds Tryd.pinned (.plain (OpenSpec.upto fnExactParseBigIntSpec)) fnExactParseBigIntUptoCard
end Rows
end Go.Proofs.YthijfjjeklmemaaDoor
