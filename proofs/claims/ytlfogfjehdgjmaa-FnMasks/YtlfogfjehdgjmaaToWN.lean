/- The walk of four words made from a number below 0. -/
import Derived.Test.YtlfogfjehdgjmaaToWB
import Derived.Deep.RegionHeld3
namespace Go.Proofs.Ytlfogfjehdgjmaa
open Go.RowKit
end Go.Proofs.Ytlfogfjehdgjmaa
