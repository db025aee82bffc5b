/- Fractions in one word: copies. Conditions: none. -/
import Derived.Test.YtodoiekbjjiocaaGreatJPk
import Derived.Test.YtodoiekbjjiocaaGreatProg
import Derived.Test.YtodoiekbjjiocaaGreatJLkBase
import Derived.Test.YtodoiekbjjiocaaGreatJB8
namespace Go.Proofs.YtodoiekbjjiocaaGreat
open Go.RowKit Nt Fr
set_option linter.unusedVariables false
section
variable (F : Fr) (a b : Value) (w : World)
theorem copied_f (g : F.ok = true) (h1 : FrA w F a b) :
 Calls Tryz.prog 89 #[.agg #[.bool F.s,a,b]] w (OwnF F w):=by
 obtain ⟨⟨A,n,k,rfl,hA⟩,⟨B,m,l,rfl,hB⟩⟩:=h1
 have e:=okR_nats g
 exact (copiedR_at F.s A n k F.xs B m l F.ys _ _ _ rfl rfl rfl g w hA hB).mono fun _ _ h=>h.f rfl e.1.symm e.2.1.symm
theorem l04Copy_f (g : F.ok = true) (h1 : FrA w F a b) :
 Calls Tryz.prog 53 #[.agg #[.bool F.s,a,b]] w (OwnF F w):=by
 obtain ⟨⟨A,n,k,rfl,hA⟩,⟨B,m,l,rfl,hB⟩⟩:=h1
 have e:=okR_nats g
 exact (l04Copy_at F.s A n k F.xs B m l F.ys _ _ _ rfl rfl rfl g w hA hB).mono fun _ _ h=>h.f rfl e.1.symm e.2.1.symm
end
end Go.Proofs.YtodoiekbjjiocaaGreat
