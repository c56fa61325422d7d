/- The walk of the shift to the left. -/
import Derived.Test.YtofjlobbohfacaaTrim
import Derived.Test.YtofjlobbohfacaaSubAbs
import Derived.Test.YtofjlobbohfacaaBit
namespace Go.Proofs.Ytofjlobbohfacaa
open Go.RowKit
end Go.Proofs.Ytofjlobbohfacaa
