/- Graphs of links: ascending lists, neighbors, what can be reached, nodes: facts about lists of pairs alone. Conditions: none. -/
import Derived.Test.YtodoiekbjjiocaaGreatAPk
import Derived.Test.YtodoiekbjjiocaaGreatProg
namespace Go.Proofs.YtodoiekbjjiocaaGreat.Gr
abbrev Eds:=List (Int × Int)
def adj (es : Eds) (x y : Int) : Prop:=(x,y) ∈ es ∨ (y,x) ∈ es
inductive Reach (es : Eds) (v : Int) : Int → Prop
 | refl : Reach es v v
 | step {x y : Int} : Reach es v x → adj es x y → Reach es v y
end Go.Proofs.YtodoiekbjjiocaaGreat.Gr
