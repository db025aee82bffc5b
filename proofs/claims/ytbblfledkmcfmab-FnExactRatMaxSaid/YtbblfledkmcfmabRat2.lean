/- Fractions in lowest terms: l04Low of the model, reduced of the program. Conditions: none. -/
import Derived.Test.YtbblfledkmcfmabProg
import Derived.Test.YtbblfledkmcfmabRat1
import Derived.Test.YtbblfledkmcfmabBigAdd
namespace Go.Proofs.Ytbblfledkmcfmab
open Go.RowKit Nt
set_option linter.unusedVariables false

theorem l03Make_let (s : Bool) (A : Option Addr) (n c : Nat) (ds : List Nat) (z : Int) (g : Bool) (M : List Nat) (hz : signed s (val ds) = z) (hg : sgZ z = g) (hM : magZ z = M) (w : World) (hA : Arg w A n c (nats ds)) (hd : Digs ds) :
    Calls Try.prog 35 #[.bool s, .slice A n c] w (OwnRB 3 g (nats M) w) := by
  subst hg hM
  exact l03Make_at s A n c ds z hz w hA.1 hd hA.2.1 hA.2.2.1 hA.2.2.2
end Go.Proofs.Ytbblfledkmcfmab
