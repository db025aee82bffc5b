/- From the listed variables of the rows (what the program's text lays) to the facts that the contracts of strconv ask. Conditions: none. -/
import Derived.Test.YtljlibigphgffaaGreatDoorRows
import Derived.Test.YtljlibigphgffaaGreatDoorStrconv
import Derived.ProofKit
import Derived.LaidMore
import Derived.Stop.Joined
import Derived.Stop.LaidErr
import Derived.Lib.LaidTab
import Derived.LaidLaws
namespace Go.Proofs.YtljlibigphgffaaGreatDoor
open Go.ChangeShapes Go.WideShapes Go.ChangeAt Go.RowKit
set_option linter.unusedVariables false
theorem tPow : (Tryz.prog.globals[1]?).map (·.type) = some 115 := by kernel_rfl
theorem laid1_link {W : World} (h : laidMetH Tryz.prog Rows.fnExactFormatLinkRow.laid W) : Laid1 W := by
  rw [MakeChecks.laidMetH_plain _ _ _ (by kernel_rfl)] at h
  have h2 : laidMet Tryz.prog [("internal/strconv.uint64pow10", Lib.tabData .u64 Lib.pow10Tab)] W := h.tail.tail
  exact Lib.tabIs_of_head gPow tPow Tryz.underlying115 Tryz.underlying101 (by kernel_rfl) (by kernel_rfl) h2

end Go.Proofs.YtljlibigphgffaaGreatDoor
