/- The determinant of three points and its sign, the turn: the program's walks. -/
import Derived.Test.YtckbhihdhcgaeaaBas11
namespace Go.Proofs.Ytckbhihdhcgaeaa
open Go.RowKit
end Go.Proofs.Ytckbhihdhcgaeaa
