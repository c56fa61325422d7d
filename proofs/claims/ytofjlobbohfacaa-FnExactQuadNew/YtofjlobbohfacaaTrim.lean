/- The walk of the number's trimming. -/
import Derived.Test.YtofjlobbohfacaaBase
namespace Go.Proofs.Ytofjlobbohfacaa
open Go.RowKit
end Go.Proofs.Ytofjlobbohfacaa
