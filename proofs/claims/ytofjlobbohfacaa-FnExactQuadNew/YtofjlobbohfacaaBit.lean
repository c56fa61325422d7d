/- Plain facts on words' bits: no program in sight. -/
import Derived.Laws.Bits64b
namespace Go.Proofs.Ytofjlobbohfacaa
end Go.Proofs.Ytofjlobbohfacaa
