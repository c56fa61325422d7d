/- The walk of the difference of digits. -/
import Derived.Test.YtofjlobbohfacaaBase
namespace Go.Proofs.Ytofjlobbohfacaa
open Go.RowKit
end Go.Proofs.Ytofjlobbohfacaa
