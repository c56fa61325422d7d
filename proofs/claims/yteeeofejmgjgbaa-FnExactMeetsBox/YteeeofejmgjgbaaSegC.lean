/- Segments of two spots: the walks. -/
import Derived.Test.YteeeofejmgjgbaaSegB
import Derived.Test.YteeeofejmgjgbaaBlk
namespace Go.Proofs.Yteeeofejmgjgbaa
open Go.RowKit
end Go.Proofs.Yteeeofejmgjgbaa
