/- The walk of the comparison of digits. -/
import Derived.Test.YtofjlobbohfacaaBase
import Derived.Deep.QuietTactic
import Derived.BigQuiet
namespace Go.Proofs.Ytofjlobbohfacaa
open Go.RowKit
end Go.Proofs.Ytofjlobbohfacaa
