/- The walk of the model's common divisor of two numbers of four words. -/
import Derived.Test.YtddniklhpkagmaaBase2
import Derived.Test.YtddniklhpkagmaaGcdS
import Derived.Deep.RegionHeld3
namespace Go.Proofs.Ytddniklhpkagmaa
open Go.RowKit
end Go.Proofs.Ytddniklhpkagmaa
