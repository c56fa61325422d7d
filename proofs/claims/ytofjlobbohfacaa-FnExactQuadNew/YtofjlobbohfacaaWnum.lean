/- Plain arithmetic of numbers of four words: no program in sight. -/
import Derived.Test.YtofjlobbohfacaaNum
namespace Go.Proofs.Ytofjlobbohfacaa
end Go.Proofs.Ytofjlobbohfacaa
