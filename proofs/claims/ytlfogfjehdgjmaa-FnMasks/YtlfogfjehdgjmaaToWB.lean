/- The words that the walk of four words made from a number shares between its branches. -/
import Derived.Test.YtlfogfjehdgjmaaFrom
import Derived.Test.YtlfogfjehdgjmaaWnum2
namespace Go.Proofs.Ytlfogfjehdgjmaa
open Go.RowKit
end Go.Proofs.Ytlfogfjehdgjmaa
