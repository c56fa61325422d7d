/- A matrix and a mask: whether they meet, on both sides. -/
import Derived.Test.YtlfogfjehdgjmaaStrA
import Derived.Test.YtlfogfjehdgjmaaQw
namespace Go.Proofs.Ytlfogfjehdgjmaa
open Go.RowKit
end Go.Proofs.Ytlfogfjehdgjmaa
