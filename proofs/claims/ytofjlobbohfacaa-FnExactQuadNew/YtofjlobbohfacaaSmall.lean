/- The walks of the number's bits, of a number made from an integer, of its sign and of its negation. -/
import Derived.Test.YtofjlobbohfacaaLeft
import Derived.Test.YtofjlobbohfacaaCmpAbs
namespace Go.Proofs.Ytofjlobbohfacaa
open Go.RowKit
end Go.Proofs.Ytofjlobbohfacaa
