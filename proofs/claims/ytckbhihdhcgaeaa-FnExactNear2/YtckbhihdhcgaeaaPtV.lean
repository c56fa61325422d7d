/- The turn of three points: both sides. -/
import Derived.Test.YtckbhihdhcgaeaaBas11
import Derived.Test.YtckbhihdhcgaeaaPtU
namespace Go.Proofs.Ytckbhihdhcgaeaa
open Go.RowKit
end Go.Proofs.Ytckbhihdhcgaeaa
