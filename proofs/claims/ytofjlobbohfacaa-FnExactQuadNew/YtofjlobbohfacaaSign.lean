/- The walks of the sign of four words, by the model and by the program, and of the law over both. -/
import Derived.Test.YtofjlobbohfacaaFrom
namespace Go.Proofs.Ytofjlobbohfacaa
open Go.RowKit
def BoolP (b : Bool) (w : World) (e : Ending) (w' : World) : Prop := e = .returned (.bool b) ∧ Below w.heap.size w w'
end Go.Proofs.Ytofjlobbohfacaa
