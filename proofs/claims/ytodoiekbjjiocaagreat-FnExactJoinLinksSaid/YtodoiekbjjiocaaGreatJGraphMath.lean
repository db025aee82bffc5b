/- Graphs of links: ascending lists, neighbors, what can be reached, nodes: facts about lists of pairs alone. Conditions: none. -/
import Derived.Test.YtodoiekbjjiocaaGreatJPk
import Derived.Test.YtodoiekbjjiocaaGreatProg
namespace Go.Proofs.YtodoiekbjjiocaaGreat.Gr
end Go.Proofs.YtodoiekbjjiocaaGreat.Gr
