/- Plain facts on words' bits: no program in sight. -/
import Derived.Laws.Bits64b
namespace Go.Proofs.Ytlfogfjehdgjmaa
end Go.Proofs.Ytlfogfjehdgjmaa
