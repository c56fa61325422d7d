/- The walk of the model's quotient and rest of two numbers of four words. -/
import Derived.Test.YtddniklhpkagmaaCut2
import Derived.Deep.RegionHeld3
namespace Go.Proofs.Ytddniklhpkagmaa
open Go.RowKit
end Go.Proofs.Ytddniklhpkagmaa
