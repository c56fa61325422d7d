/- The walk of the model's greatest common divisor. -/
import Derived.Test.YtllfpnnngdphfaaDivS
namespace Go.Proofs.Ytllfpnnngdphfaa
open Go.RowKit
end Go.Proofs.Ytllfpnnngdphfaa
