/- Numbers of four words drawn from a code: the walk. -/
import Derived.Test.YtlfogfjehdgjmaaDrw
import Derived.Test.YtlfogfjehdgjmaaMulS
namespace Go.Proofs.Ytlfogfjehdgjmaa
open Go.RowKit
end Go.Proofs.Ytlfogfjehdgjmaa
