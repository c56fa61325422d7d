/- Plain arithmetic: four words out of digits. No program in sight. -/
import Derived.Test.YtlfogfjehdgjmaaWnum
namespace Go.Proofs.Ytlfogfjehdgjmaa
end Go.Proofs.Ytlfogfjehdgjmaa
