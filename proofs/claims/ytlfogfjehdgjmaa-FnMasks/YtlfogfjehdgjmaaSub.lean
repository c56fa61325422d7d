/- The walks of negation, difference and comparison of numbers. -/
import Derived.Test.YtlfogfjehdgjmaaArith
namespace Go.Proofs.Ytlfogfjehdgjmaa
open Go.RowKit
end Go.Proofs.Ytlfogfjehdgjmaa
