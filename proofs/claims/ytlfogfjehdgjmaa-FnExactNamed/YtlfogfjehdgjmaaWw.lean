/- The words of a number, as its bits lie. -/
import Derived.Test.YtlfogfjehdgjmaaWnum2
import Derived.Test.YtlfogfjehdgjmaaBase
namespace Go.Proofs.Ytlfogfjehdgjmaa
open Go.RowKit
def VP (v : Value) (w : World) (e : Ending) (w' : World) : Prop := e = .returned v ∧ Below w.heap.size w w'
end Go.Proofs.Ytlfogfjehdgjmaa
