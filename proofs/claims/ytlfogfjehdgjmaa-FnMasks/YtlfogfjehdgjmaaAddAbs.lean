/- The walk of the sum of digits. -/
import Derived.Test.YtlfogfjehdgjmaaSubAbs
namespace Go.Proofs.Ytlfogfjehdgjmaa
open Go.RowKit
end Go.Proofs.Ytlfogfjehdgjmaa
