/- The walk of a number made from four words. -/
import Derived.Test.YtofjlobbohfacaaSmall
import Derived.Test.YtofjlobbohfacaaWnum
namespace Go.Proofs.Ytofjlobbohfacaa
open Go.RowKit
end Go.Proofs.Ytofjlobbohfacaa
