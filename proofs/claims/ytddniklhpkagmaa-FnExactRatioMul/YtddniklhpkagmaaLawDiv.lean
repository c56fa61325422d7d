/- The walk of the law on quotients and rests: the program's answers and the model's. -/
import Derived.Test.YtddniklhpkagmaaSpecDiv
import Derived.Test.YtddniklhpkagmaaCut4
import Derived.Test.YtddniklhpkagmaaLawB
import Derived.Deep.DeepCutAuto
namespace Go.Proofs.Ytddniklhpkagmaa
open Go.RowKit
end Go.Proofs.Ytddniklhpkagmaa
