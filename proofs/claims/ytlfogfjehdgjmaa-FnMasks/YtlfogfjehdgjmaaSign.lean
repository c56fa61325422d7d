/- The walks of the sign of four words, by the model and by the program, and of the law over both. -/
import Derived.Test.YtlfogfjehdgjmaaFrom
namespace Go.Proofs.Ytlfogfjehdgjmaa
open Go.RowKit
end Go.Proofs.Ytlfogfjehdgjmaa
