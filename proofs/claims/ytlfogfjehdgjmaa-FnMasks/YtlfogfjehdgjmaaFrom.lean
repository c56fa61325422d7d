/- The walk of a number made from four words. -/
import Derived.Test.YtlfogfjehdgjmaaSmall
import Derived.Test.YtlfogfjehdgjmaaWnum
namespace Go.Proofs.Ytlfogfjehdgjmaa
open Go.RowKit
end Go.Proofs.Ytlfogfjehdgjmaa
