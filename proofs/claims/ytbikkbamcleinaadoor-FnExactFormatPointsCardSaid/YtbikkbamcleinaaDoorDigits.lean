/- Contracts of spec.IsDigits, impl.isDigit and impl.IsDigits: each returns whether the string is a nonempty row of ASCII digits. Condition: the string is at most maxLen bytes long. -/
import Derived.Test.YtbikkbamcleinaaDoorProg
import Derived.Test.YtbikkbamcleinaaDoorWordMath
import Derived.Test.YtbikkbamcleinaaDoorB1
import Derived.WalkKit
import Derived.WalkSpells
import Derived.WalkLawsBesides
import Derived.LoopTactic
import Derived.Outline
import Derived.Lib.Hide
namespace Go.Proofs.YtbikkbamcleinaaDoor
open Go.RowKit Wm
set_option linter.unusedVariables false


end Go.Proofs.YtbikkbamcleinaaDoor
