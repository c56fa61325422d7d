/- The walks of a number of four words made from an integer, by the model and by the program, and of the law over both. -/
import Derived.Test.YtlfogfjehdgjmaaToW
import Derived.Test.YtlfogfjehdgjmaaToWN
import Derived.Test.YtlfogfjehdgjmaaSign
namespace Go.Proofs.Ytlfogfjehdgjmaa
open Go.RowKit
end Go.Proofs.Ytlfogfjehdgjmaa
