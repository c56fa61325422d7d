/- How a value of four words reads as data: opened and shut. -/
import Derived.Test.YtlfogfjehdgjmaaWnum
import Derived.Test.YtlfogfjehdgjmaaRows
import Derived.ProofKit
import Derived.Lib.SmallJoins
namespace Go.Proofs.Ytlfogfjehdgjmaa
open Go.ChangeShapes Go.WideShapes Go.ChangeAt Go.RowKit Go.Joins
theorem Try.own : ownKnob Try.prog.godebug = none := by kernel_rfl
end Go.Proofs.Ytlfogfjehdgjmaa
