/- The walk of the difference of digits. -/
import Derived.Test.YtlfogfjehdgjmaaBase
namespace Go.Proofs.Ytlfogfjehdgjmaa
open Go.RowKit
end Go.Proofs.Ytlfogfjehdgjmaa
