/- Plain arithmetic of numbers of four words: no program in sight. -/
import Derived.Test.YtlfogfjehdgjmaaNum
namespace Go.Proofs.Ytlfogfjehdgjmaa
end Go.Proofs.Ytlfogfjehdgjmaa
