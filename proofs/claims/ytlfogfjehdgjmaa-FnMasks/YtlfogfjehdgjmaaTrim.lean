/- The walk of the number's trimming. -/
import Derived.Test.YtlfogfjehdgjmaaBase
namespace Go.Proofs.Ytlfogfjehdgjmaa
open Go.RowKit
end Go.Proofs.Ytlfogfjehdgjmaa
