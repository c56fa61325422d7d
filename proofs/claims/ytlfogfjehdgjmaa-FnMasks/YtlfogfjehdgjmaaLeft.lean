/- The walk of the shift to the left. -/
import Derived.Test.YtlfogfjehdgjmaaTrim
import Derived.Test.YtlfogfjehdgjmaaSubAbs
import Derived.Test.YtlfogfjehdgjmaaBit
namespace Go.Proofs.Ytlfogfjehdgjmaa
open Go.RowKit
end Go.Proofs.Ytlfogfjehdgjmaa
