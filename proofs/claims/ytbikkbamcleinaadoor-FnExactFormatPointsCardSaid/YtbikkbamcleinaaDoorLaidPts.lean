/- From the listed variables of the rows (what the program's text lays) to the facts that the contracts of strconv ask. Conditions: none. -/
import Derived.Test.YtbikkbamcleinaaDoorRows
import Derived.Test.YtbikkbamcleinaaDoorStrconv
import Derived.ProofKit
import Derived.LaidMore
import Derived.Stop.Joined
import Derived.Stop.LaidErr
import Derived.Lib.LaidTab
import Derived.LaidLaws
namespace Go.Proofs.YtbikkbamcleinaaDoor
open Go.ChangeShapes Go.WideShapes Go.ChangeAt Go.RowKit
set_option linter.unusedVariables false
theorem tPow : (Tryd.prog.globals[1]?).map (·.type) = some 120 := by kernel_rfl
theorem laid1_pts {W : World} (h : laidMetH Tryd.prog Rows.fnExactFormatPointsRow.laid W) : Laid1 W := by
  rw [MakeChecks.laidMetH_plain _ _ _ (by kernel_rfl)] at h
  have h2 : laidMet Tryd.prog [("internal/strconv.uint64pow10", Lib.tabData .u64 Lib.pow10Tab)] W := h.tail.tail
  exact Lib.tabIs_of_head gPow tPow Tryd.underlying120 Tryd.underlying107 (by kernel_rfl) (by kernel_rfl) h2

end Go.Proofs.YtbikkbamcleinaaDoor
