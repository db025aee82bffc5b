/-
  DERIVED. GIVEN WITH THE SEED: THE CARDS: each row of YtljlibigphgffaaGreatDoorRows.lean that lists a variable, with what it lists TIED to the program's text (the seventh form; the later family's looks); each row that meets fmt, with fmt's text TOLD by the authors' own Lean function (tested against real Go, not proved from fmt's source: count such statements apart). THE CARD IS WHAT COUNTS. Prove the row's statement (the work); the ties are given (YtljlibigphgffaaGreatDoorTie.lean); close each card by the builder's one call (the guide's Derived/Test/ToyasCard.lean, 'card_holds'). Laid BY PROGRAM, IN A SANDBOX (cutbox-door.mjs). By AI agents, Wed Nov 11 2026. No macro, syntax, notation, axiom, sorry.
-/
import Derived.Test.YtljlibigphgffaaGreatDoorRows
import GoSem.ClaimSeven
namespace Go.Proofs.YtljlibigphgffaaGreatDoor
namespace Rows

/-- THE TIED CARD OF 'laws.FnExactFormatLink'. -/
def fnExactFormatLinkCard : Claim7 := { stood := { row := fnExactFormatLinkRow, standIns := [], harness := (true, "1b688502f8bc4f4ebee73ce8e90d24ec6b1888d067d147d35e63eee927c3dacc"), looks := false }, kinds := [], alts := [], laidByText := true, laidKinds := [.data, .data, .data], laidTests := true, laidLooks := .later }
def FnExactFormatLinkCardSaid : Prop := Claim7.holds Tryz.pinned (.plain (OpenSpec.ofChange fnExactFormatLinkSpec)) fnExactFormatLinkCard

/-- THE SECOND FORM's CARD OF 'laws.FnExactFormatLink'. -/
def fnExactFormatLinkUptoCard : Claim7 := { stood := { row := fnExactFormatLinkUptoRow, standIns := [], harness := (true, "1b688502f8bc4f4ebee73ce8e90d24ec6b1888d067d147d35e63eee927c3dacc"), looks := false }, kinds := [], alts := [], laidByText := true, laidKinds := [.data, .data, .data], laidTests := true, laidLooks := .later }
def FnExactFormatLinkUptoCardSaid : Prop := Claim7.holds Tryz.pinned (.plain (OpenSpec.upto fnExactFormatLinkSpec)) fnExactFormatLinkUptoCard
end Rows
end Go.Proofs.YtljlibigphgffaaGreatDoor
