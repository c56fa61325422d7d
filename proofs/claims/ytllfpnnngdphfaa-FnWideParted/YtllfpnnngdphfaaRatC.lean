/- Fractions in their order: the program's walks. -/
import Derived.Test.YtllfpnnngdphfaaRatO
import Derived.Test.YtllfpnnngdphfaaDivG
namespace Go.Proofs.Ytllfpnnngdphfaa
open Go.RowKit
end Go.Proofs.Ytllfpnnngdphfaa
