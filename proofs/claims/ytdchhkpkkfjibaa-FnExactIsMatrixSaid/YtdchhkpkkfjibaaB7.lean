/- Joined: XRat3done XRat3dtwo XRat3dmix XRat3d XRat3e. Conditions: none. -/
import Derived.Test.YtdchhkpkkfjibaaProg
import Derived.Test.YtdchhkpkkfjibaaB5
import Derived.Test.YtdchhkpkkfjibaaB1
import Derived.Deep.DeepCutAuto
import Derived.Test.YtdchhkpkkfjibaaB4
import Derived.Test.YtdchhkpkkfjibaaB2
namespace Go.Proofs.Ytdchhkpkkfjibaa
open Go.RowKit Nt
set_option linter.unusedVariables false

end Go.Proofs.Ytdchhkpkkfjibaa
namespace Go.Proofs.Ytdchhkpkkfjibaa
open Go.RowKit Nt
set_option linter.unusedVariables false

end Go.Proofs.Ytdchhkpkkfjibaa
namespace Go.Proofs.Ytdchhkpkkfjibaa
open Go.RowKit Nt
set_option linter.unusedVariables false

end Go.Proofs.Ytdchhkpkkfjibaa
namespace Go.Proofs.Ytdchhkpkkfjibaa
open Go.RowKit Nt
set_option linter.unusedVariables false

end Go.Proofs.Ytdchhkpkkfjibaa
namespace Go.Proofs.Ytdchhkpkkfjibaa
open Go.RowKit Nt
set_option linter.unusedVariables false

end Go.Proofs.Ytdchhkpkkfjibaa
