/- The words of a number, as its bits lie. -/
import Derived.Test.YtofjlobbohfacaaWnum2
import Derived.Test.YtofjlobbohfacaaBase
namespace Go.Proofs.Ytofjlobbohfacaa
open Go.RowKit
def VP (v : Value) (w : World) (e : Ending) (w' : World) : Prop := e = .returned v ∧ Below w.heap.size w w'
end Go.Proofs.Ytofjlobbohfacaa
