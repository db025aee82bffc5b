/- From the listed variables of the rows (what the program's text lays) to the facts that the contracts of strconv ask. Conditions: none. -/
import Derived.Test.YtdchhkpkkfjibaaGreatDoorRows
import Derived.Test.YtdchhkpkkfjibaaGreatDoorStrconv
import Derived.ProofKit
import Derived.LaidMore
import Derived.Stop.Joined
import Derived.Stop.LaidErr
import Derived.Lib.LaidTab
import Derived.LaidLaws
namespace Go.Proofs.YtdchhkpkkfjibaaGreatDoor
open Go.ChangeShapes Go.WideShapes Go.ChangeAt Go.RowKit
set_option linter.unusedVariables false
theorem tPow : (Tryz.prog.globals[0]?).map (·.type) = some 142 := by kernel_rfl
theorem laid1_cond {W : World} (h : laidMetH Tryz.prog Rows.fnExactFormatConditionalRow.laid W) : Laid1 W := by
  rw [MakeChecks.laidMetH_plain _ _ _ (by kernel_rfl)] at h
  have h2 : laidMet Tryz.prog [("internal/strconv.uint64pow10", Lib.tabData .u64 Lib.pow10Tab)] W := h.tail.tail
  exact Lib.tabIs_of_head gPow tPow Tryz.underlying142 Tryz.underlying126 (by kernel_rfl) (by kernel_rfl) h2

end Go.Proofs.YtdchhkpkkfjibaaGreatDoor
