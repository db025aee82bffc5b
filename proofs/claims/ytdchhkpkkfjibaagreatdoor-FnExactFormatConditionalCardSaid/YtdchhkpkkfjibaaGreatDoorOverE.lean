/- Two stores one behind the other, the new blocks last. Conditions: none. -/
import Derived.Test.YtdchhkpkkfjibaaGreatDoorCond
namespace Go.Proofs.YtdchhkpkkfjibaaGreatDoor
open Go.RowKit Nt Fr
set_option linter.unusedVariables false

theorem St.overE {w0 w w' : World} {bs bs2 : List (Nat × List Value)} {cs cs2 : List Chunk} (h : St w0 w bs cs) (h2 : St w w' bs2 cs2) : St w0 w' (bs ++ bs2) (cs2 ++ cs) := (h.over h2).perm List.perm_append_comm (List.Perm.refl _)
end Go.Proofs.YtdchhkpkkfjibaaGreatDoor
