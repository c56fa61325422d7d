/- Part 4 of the walks that the proof leans on. -/
import Derived.Test.YtnnojeggjnddpaaPart1
import Derived.Test.YtnnojeggjnddpaaRows
import Derived.ProofKit
import Derived.Lib.SmallJoins
import Derived.Test.YtnnojeggjnddpaaPart3
/- How a value of four words reads as data: opened and shut. -/
namespace Go.Proofs.Ytnnojeggjnddpaa
open Go.ChangeShapes Go.WideShapes Go.ChangeAt Go.RowKit Go.Joins
theorem Try.own : ownKnob Try.prog.godebug = none := by kernel_rfl
end Go.Proofs.Ytnnojeggjnddpaa

/- What the row of a law asks of the program as a whole, each by itself. -/
namespace Go.Proofs.Ytnnojeggjnddpaa
open Go.ChangeShapes Go.WideShapes Go.ChangeAt Go.RowKit Go.Joins
theorem jn_laid : laidOutB Try.pinned.checked.prog = true := by kernel_rfl
theorem jn_maps : mapsRowed Try.pinned.checked.prog = true := by kernel_rfl
theorem jn_enter : Try.pinned.checked.prog.mayEnter = true := by kernel_rfl
theorem jn_heard : Try.pinned.checked.prog.stopsHeard = true := by kernel_rfl
end Go.Proofs.Ytnnojeggjnddpaa
