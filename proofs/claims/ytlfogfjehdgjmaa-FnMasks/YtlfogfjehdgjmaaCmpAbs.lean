/- The walk of the comparison of digits. -/
import Derived.Test.YtlfogfjehdgjmaaBase
import Derived.Deep.QuietTactic
import Derived.BigQuiet
namespace Go.Proofs.Ytlfogfjehdgjmaa
open Go.RowKit
end Go.Proofs.Ytlfogfjehdgjmaa
