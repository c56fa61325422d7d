/- The walk of the model's common divisor of two numbers of four words. -/
import Derived.Test.YtllfpnnngdphfaaBase3
import Derived.Test.YtllfpnnngdphfaaGcdS
import Derived.Deep.RegionHeld3
namespace Go.Proofs.Ytllfpnnngdphfaa
open Go.RowKit
end Go.Proofs.Ytllfpnnngdphfaa
