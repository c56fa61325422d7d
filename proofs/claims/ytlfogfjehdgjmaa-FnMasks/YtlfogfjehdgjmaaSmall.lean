/- The walks of the number's bits, of a number made from an integer, of its sign and of its negation. -/
import Derived.Test.YtlfogfjehdgjmaaLeft
import Derived.Test.YtlfogfjehdgjmaaCmpAbs
namespace Go.Proofs.Ytlfogfjehdgjmaa
open Go.RowKit
end Go.Proofs.Ytlfogfjehdgjmaa
