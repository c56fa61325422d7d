/-
  No cell of these rows narrows 'for every input' (looked for: loops, veiled, ifaces, maps, wideKeys, modest, calm, conditions, laid).
  DERIVED. THE GIVEN ROWS OF THIS SEAT. 14 by the template 'for every input the law returns true; each argument reads behind the call as it read before'; 0 by the template 'total and deterministic' (their statements: YtckbhihdhcgaeaaTotals.lean).
  GIVEN WITH THE SEED: the statements are not yours to turn. If you find one false, say at which input.
  Laid BY PROGRAM, IN A SANDBOX (cutbox-rows.mjs): the forced cells as the released guide's own fill.sh prints them over the translation 3e87dc81c44e0a0d… (all of the seat's roots in one cut). By AI agents, Wed Nov 11 2026. No macro, syntax, notation, axiom, sorry.
-/
import Derived.Test.YtckbhihdhcgaeaaChecked
import GoSem.Claim
import GoSem.ClaimJoined
import GoSem.ClaimMapViews
import Derived.JoinedTies
import Derived.KernelRfl
namespace Go.Proofs.Ytckbhihdhcgaeaa
/- THE CELL 'sum', in the pinned program and in every row, IS THE sha256 OF THE DUMP (.gsa) THAT YtckbhihdhcgaeaaProg.lean LOADS. Nothing in Lean hashes anything: it is a label: what it is worth is what the hold of that sum in a sandbox is worth. -/
noncomputable def Try.pinned : Pinned := { name := "ytckbhihdhcgaeaa", sum := "3e87dc81c44e0a0da7c18410eba1d593e802e79b581c962748f62fd0cc238c13", checked := Try.checked }
namespace Rows
def none {H : Type} : Left H := { results := [], args := [] }

/-- 'laws.FnExactPointOk': WHATEVER THE INPUT: true; the input reads as it did. -/
def fnExactPointOkSpec : ChangeSpec := { name := "fnExactPointOk", fn := fun _ => fun
  | [d] => { results := [.lit (.bool true)], args := [d] }
  | _ => none }
def fnExactPointOkRow : OpenClaim := { program := "ytckbhihdhcgaeaa", sum := "3e87dc81c44e0a0da7c18410eba1d593e802e79b581c962748f62fd0cc238c13", func := "loop.example/g00225/laws.FnExactPointOk", spec := "fnExactPointOk", inPlace := ["math/bits.Sub64", "math/bits.Add64"], named := ["math/bits.divideError", "math/bits.overflowError"], apart := false }
def FnExactPointOkSaid : Prop := fnExactPointOkRow.holds Try.pinned (OpenSpec.ofChange fnExactPointOkSpec)

/-- ITS FALSE NEIGHBOUR: 'it returns false'. Refute it at one input. -/
def fnExactPointOkWrong : ChangeSpec := { name := "fnExactPointOk", fn := fun _ => fun
  | [d] => { results := [.lit (.bool false)], args := [d] }
  | _ => none }
def FnExactPointOkWrongFalsely : Prop := fnExactPointOkRow.holds Try.pinned (OpenSpec.ofChange fnExactPointOkWrong)

/-- 'laws.FnExactPointMake': WHATEVER THE INPUT: true; the input reads as it did. -/
def fnExactPointMakeSpec : ChangeSpec := { name := "fnExactPointMake", fn := fun _ => fun
  | [d1, d2, d3] => { results := [.lit (.bool true)], args := [d1, d2, d3] }
  | _ => none }
def fnExactPointMakeRow : OpenClaim := { program := "ytckbhihdhcgaeaa", sum := "3e87dc81c44e0a0da7c18410eba1d593e802e79b581c962748f62fd0cc238c13", func := "loop.example/g00225/laws.FnExactPointMake", spec := "fnExactPointMake", inPlace := ["math/bits.Sub64", "math/bits.Add64"], named := ["math/bits.divideError", "math/bits.overflowError"], apart := false }
def FnExactPointMakeSaid : Prop := fnExactPointMakeRow.holds Try.pinned (OpenSpec.ofChange fnExactPointMakeSpec)

/-- ITS FALSE NEIGHBOUR: 'it returns false'. Refute it at one input. -/
def fnExactPointMakeWrong : ChangeSpec := { name := "fnExactPointMake", fn := fun _ => fun
  | [d1, d2, d3] => { results := [.lit (.bool false)], args := [d1, d2, d3] }
  | _ => none }
def FnExactPointMakeWrongFalsely : Prop := fnExactPointMakeRow.holds Try.pinned (OpenSpec.ofChange fnExactPointMakeWrong)

/-- 'laws.FnExactPointCmp': WHATEVER THE INPUT: true; the input reads as it did. -/
def fnExactPointCmpSpec : ChangeSpec := { name := "fnExactPointCmp", fn := fun _ => fun
  | [d1, d2] => { results := [.lit (.bool true)], args := [d1, d2] }
  | _ => none }
def fnExactPointCmpRow : OpenClaim := { program := "ytckbhihdhcgaeaa", sum := "3e87dc81c44e0a0da7c18410eba1d593e802e79b581c962748f62fd0cc238c13", func := "loop.example/g00225/laws.FnExactPointCmp", spec := "fnExactPointCmp", inPlace := ["math/bits.Sub64", "math/bits.Add64"], named := ["math/bits.divideError", "math/bits.overflowError"], apart := false }
def FnExactPointCmpSaid : Prop := fnExactPointCmpRow.holds Try.pinned (OpenSpec.ofChange fnExactPointCmpSpec)

/-- ITS FALSE NEIGHBOUR: 'it returns false'. Refute it at one input. -/
def fnExactPointCmpWrong : ChangeSpec := { name := "fnExactPointCmp", fn := fun _ => fun
  | [d1, d2] => { results := [.lit (.bool false)], args := [d1, d2] }
  | _ => none }
def FnExactPointCmpWrongFalsely : Prop := fnExactPointCmpRow.holds Try.pinned (OpenSpec.ofChange fnExactPointCmpWrong)

/-- 'laws.FnExactOrient': WHATEVER THE INPUT: true; the input reads as it did. -/
def fnExactOrientSpec : ChangeSpec := { name := "fnExactOrient", fn := fun _ => fun
  | [d1, d2, d3] => { results := [.lit (.bool true)], args := [d1, d2, d3] }
  | _ => none }
def fnExactOrientRow : OpenClaim := { program := "ytckbhihdhcgaeaa", sum := "3e87dc81c44e0a0da7c18410eba1d593e802e79b581c962748f62fd0cc238c13", func := "loop.example/g00225/laws.FnExactOrient", spec := "fnExactOrient", inPlace := ["math/bits.Sub64", "math/bits.Add64"], named := ["math/bits.divideError", "math/bits.overflowError"], apart := false }
def FnExactOrientSaid : Prop := fnExactOrientRow.holds Try.pinned (OpenSpec.ofChange fnExactOrientSpec)

/-- ITS FALSE NEIGHBOUR: 'it returns false'. Refute it at one input. -/
def fnExactOrientWrong : ChangeSpec := { name := "fnExactOrient", fn := fun _ => fun
  | [d1, d2, d3] => { results := [.lit (.bool false)], args := [d1, d2, d3] }
  | _ => none }
def FnExactOrientWrongFalsely : Prop := fnExactOrientRow.holds Try.pinned (OpenSpec.ofChange fnExactOrientWrong)

/-- 'laws.FnExactBetween': WHATEVER THE INPUT: true; the input reads as it did. -/
def fnExactBetweenSpec : ChangeSpec := { name := "fnExactBetween", fn := fun _ => fun
  | [d1, d2, d3] => { results := [.lit (.bool true)], args := [d1, d2, d3] }
  | _ => none }
def fnExactBetweenRow : OpenClaim := { program := "ytckbhihdhcgaeaa", sum := "3e87dc81c44e0a0da7c18410eba1d593e802e79b581c962748f62fd0cc238c13", func := "loop.example/g00225/laws.FnExactBetween", spec := "fnExactBetween", inPlace := ["math/bits.Sub64", "math/bits.Add64"], named := ["math/bits.divideError", "math/bits.overflowError"], apart := false }
def FnExactBetweenSaid : Prop := fnExactBetweenRow.holds Try.pinned (OpenSpec.ofChange fnExactBetweenSpec)

/-- ITS FALSE NEIGHBOUR: 'it returns false'. Refute it at one input. -/
def fnExactBetweenWrong : ChangeSpec := { name := "fnExactBetween", fn := fun _ => fun
  | [d1, d2, d3] => { results := [.lit (.bool false)], args := [d1, d2, d3] }
  | _ => none }
def FnExactBetweenWrongFalsely : Prop := fnExactBetweenRow.holds Try.pinned (OpenSpec.ofChange fnExactBetweenWrong)

/-- 'laws.FnExactDist2': WHATEVER THE INPUT: true; the input reads as it did. -/
def fnExactDist2Spec : ChangeSpec := { name := "fnExactDist2", fn := fun _ => fun
  | [d1, d2] => { results := [.lit (.bool true)], args := [d1, d2] }
  | _ => none }
def fnExactDist2Row : OpenClaim := { program := "ytckbhihdhcgaeaa", sum := "3e87dc81c44e0a0da7c18410eba1d593e802e79b581c962748f62fd0cc238c13", func := "loop.example/g00225/laws.FnExactDist2", spec := "fnExactDist2", inPlace := ["math/bits.Sub64", "math/bits.Add64"], named := ["math/bits.divideError", "math/bits.overflowError"], apart := false }
def FnExactDist2Said : Prop := fnExactDist2Row.holds Try.pinned (OpenSpec.ofChange fnExactDist2Spec)

/-- ITS FALSE NEIGHBOUR: 'it returns false'. Refute it at one input. -/
def fnExactDist2Wrong : ChangeSpec := { name := "fnExactDist2", fn := fun _ => fun
  | [d1, d2] => { results := [.lit (.bool false)], args := [d1, d2] }
  | _ => none }
def FnExactDist2WrongFalsely : Prop := fnExactDist2Row.holds Try.pinned (OpenSpec.ofChange fnExactDist2Wrong)

/-- 'laws.FnExactMiddle': WHATEVER THE INPUT: true; the input reads as it did. -/
def fnExactMiddleSpec : ChangeSpec := { name := "fnExactMiddle", fn := fun _ => fun
  | [d1, d2] => { results := [.lit (.bool true)], args := [d1, d2] }
  | _ => none }
def fnExactMiddleRow : OpenClaim := { program := "ytckbhihdhcgaeaa", sum := "3e87dc81c44e0a0da7c18410eba1d593e802e79b581c962748f62fd0cc238c13", func := "loop.example/g00225/laws.FnExactMiddle", spec := "fnExactMiddle", inPlace := ["math/bits.Sub64", "math/bits.Add64"], named := ["math/bits.divideError", "math/bits.overflowError"], apart := false }
def FnExactMiddleSaid : Prop := fnExactMiddleRow.holds Try.pinned (OpenSpec.ofChange fnExactMiddleSpec)

/-- ITS FALSE NEIGHBOUR: 'it returns false'. Refute it at one input. -/
def fnExactMiddleWrong : ChangeSpec := { name := "fnExactMiddle", fn := fun _ => fun
  | [d1, d2] => { results := [.lit (.bool false)], args := [d1, d2] }
  | _ => none }
def FnExactMiddleWrongFalsely : Prop := fnExactMiddleRow.holds Try.pinned (OpenSpec.ofChange fnExactMiddleWrong)

/-- 'laws.FnExactSideOf': WHATEVER THE INPUT: true; the input reads as it did. -/
def fnExactSideOfSpec : ChangeSpec := { name := "fnExactSideOf", fn := fun _ => fun
  | [d1, d2] => { results := [.lit (.bool true)], args := [d1, d2] }
  | _ => none }
def fnExactSideOfRow : OpenClaim := { program := "ytckbhihdhcgaeaa", sum := "3e87dc81c44e0a0da7c18410eba1d593e802e79b581c962748f62fd0cc238c13", func := "loop.example/g00225/laws.FnExactSideOf", spec := "fnExactSideOf", inPlace := ["math/bits.Sub64", "math/bits.Add64"], named := ["math/bits.divideError", "math/bits.overflowError"], apart := false }
def FnExactSideOfSaid : Prop := fnExactSideOfRow.holds Try.pinned (OpenSpec.ofChange fnExactSideOfSpec)

/-- ITS FALSE NEIGHBOUR: 'it returns false'. Refute it at one input. -/
def fnExactSideOfWrong : ChangeSpec := { name := "fnExactSideOf", fn := fun _ => fun
  | [d1, d2] => { results := [.lit (.bool false)], args := [d1, d2] }
  | _ => none }
def FnExactSideOfWrongFalsely : Prop := fnExactSideOfRow.holds Try.pinned (OpenSpec.ofChange fnExactSideOfWrong)

/-- 'laws.FnExactOnSeg': WHATEVER THE INPUT: true; the input reads as it did. -/
def fnExactOnSegSpec : ChangeSpec := { name := "fnExactOnSeg", fn := fun _ => fun
  | [d1, d2] => { results := [.lit (.bool true)], args := [d1, d2] }
  | _ => none }
def fnExactOnSegRow : OpenClaim := { program := "ytckbhihdhcgaeaa", sum := "3e87dc81c44e0a0da7c18410eba1d593e802e79b581c962748f62fd0cc238c13", func := "loop.example/g00225/laws.FnExactOnSeg", spec := "fnExactOnSeg", inPlace := ["math/bits.Sub64", "math/bits.Add64"], named := ["math/bits.divideError", "math/bits.overflowError"], apart := false }
def FnExactOnSegSaid : Prop := fnExactOnSegRow.holds Try.pinned (OpenSpec.ofChange fnExactOnSegSpec)

/-- ITS FALSE NEIGHBOUR: 'it returns false'. Refute it at one input. -/
def fnExactOnSegWrong : ChangeSpec := { name := "fnExactOnSeg", fn := fun _ => fun
  | [d1, d2] => { results := [.lit (.bool false)], args := [d1, d2] }
  | _ => none }
def FnExactOnSegWrongFalsely : Prop := fnExactOnSegRow.holds Try.pinned (OpenSpec.ofChange fnExactOnSegWrong)

/-- 'laws.FnExactMeet': WHATEVER THE INPUT: true; the input reads as it did. -/
def fnExactMeetSpec : ChangeSpec := { name := "fnExactMeet", fn := fun _ => fun
  | [d1, d2] => { results := [.lit (.bool true)], args := [d1, d2] }
  | _ => none }
def fnExactMeetRow : OpenClaim := { program := "ytckbhihdhcgaeaa", sum := "3e87dc81c44e0a0da7c18410eba1d593e802e79b581c962748f62fd0cc238c13", func := "loop.example/g00225/laws.FnExactMeet", spec := "fnExactMeet", apart := false }
def FnExactMeetSaid : Prop := fnExactMeetRow.holds Try.pinned (OpenSpec.ofChange fnExactMeetSpec)

/-- ITS FALSE NEIGHBOUR: 'it returns false'. Refute it at one input. -/
def fnExactMeetWrong : ChangeSpec := { name := "fnExactMeet", fn := fun _ => fun
  | [d1, d2] => { results := [.lit (.bool false)], args := [d1, d2] }
  | _ => none }
def FnExactMeetWrongFalsely : Prop := fnExactMeetRow.holds Try.pinned (OpenSpec.ofChange fnExactMeetWrong)

/-- 'laws.FnExactNear2': WHATEVER THE INPUT: true; the input reads as it did. -/
def fnExactNear2Spec : ChangeSpec := { name := "fnExactNear2", fn := fun _ => fun
  | [d1, d2] => { results := [.lit (.bool true)], args := [d1, d2] }
  | _ => none }
def fnExactNear2Row : OpenClaim := { program := "ytckbhihdhcgaeaa", sum := "3e87dc81c44e0a0da7c18410eba1d593e802e79b581c962748f62fd0cc238c13", func := "loop.example/g00225/laws.FnExactNear2", spec := "fnExactNear2", inPlace := ["math/bits.Sub64", "math/bits.Add64"], named := ["math/bits.divideError", "math/bits.overflowError"], apart := false }
def FnExactNear2Said : Prop := fnExactNear2Row.holds Try.pinned (OpenSpec.ofChange fnExactNear2Spec)

/-- ITS FALSE NEIGHBOUR: 'it returns false'. Refute it at one input. -/
def fnExactNear2Wrong : ChangeSpec := { name := "fnExactNear2", fn := fun _ => fun
  | [d1, d2] => { results := [.lit (.bool false)], args := [d1, d2] }
  | _ => none }
def FnExactNear2WrongFalsely : Prop := fnExactNear2Row.holds Try.pinned (OpenSpec.ofChange fnExactNear2Wrong)

/-- 'laws.FnExactOverAt': WHATEVER THE INPUT: true; the input reads as it did. -/
def fnExactOverAtSpec : ChangeSpec := { name := "fnExactOverAt", fn := fun _ => fun
  | [d1, d2] => { results := [.lit (.bool true)], args := [d1, d2] }
  | _ => none }
def fnExactOverAtRow : OpenClaim := { program := "ytckbhihdhcgaeaa", sum := "3e87dc81c44e0a0da7c18410eba1d593e802e79b581c962748f62fd0cc238c13", func := "loop.example/g00225/laws.FnExactOverAt", spec := "fnExactOverAt", inPlace := ["math/bits.Sub64", "math/bits.Add64"], named := ["math/bits.divideError", "math/bits.overflowError"], apart := false }
def FnExactOverAtSaid : Prop := fnExactOverAtRow.holds Try.pinned (OpenSpec.ofChange fnExactOverAtSpec)

/-- ITS FALSE NEIGHBOUR: 'it returns false'. Refute it at one input. -/
def fnExactOverAtWrong : ChangeSpec := { name := "fnExactOverAt", fn := fun _ => fun
  | [d1, d2] => { results := [.lit (.bool false)], args := [d1, d2] }
  | _ => none }
def FnExactOverAtWrongFalsely : Prop := fnExactOverAtRow.holds Try.pinned (OpenSpec.ofChange fnExactOverAtWrong)

/-- 'laws.FnExactSegsFault': WHATEVER THE INPUT: true; the input reads as it did. -/
def fnExactSegsFaultSpec : ChangeSpec := { name := "fnExactSegsFault", fn := fun _ => fun
  | [d] => { results := [.lit (.bool true)], args := [d] }
  | _ => none }
def fnExactSegsFaultRow : OpenClaim := { program := "ytckbhihdhcgaeaa", sum := "3e87dc81c44e0a0da7c18410eba1d593e802e79b581c962748f62fd0cc238c13", func := "loop.example/g00225/laws.FnExactSegsFault", spec := "fnExactSegsFault", apart := false }
def FnExactSegsFaultSaid : Prop := fnExactSegsFaultRow.holds Try.pinned (OpenSpec.ofChange fnExactSegsFaultSpec)

/-- ITS FALSE NEIGHBOUR: 'it returns false'. Refute it at one input. -/
def fnExactSegsFaultWrong : ChangeSpec := { name := "fnExactSegsFault", fn := fun _ => fun
  | [d] => { results := [.lit (.bool false)], args := [d] }
  | _ => none }
def FnExactSegsFaultWrongFalsely : Prop := fnExactSegsFaultRow.holds Try.pinned (OpenSpec.ofChange fnExactSegsFaultWrong)

/-- 'laws.FnExactEventsOk': WHATEVER THE INPUT: true; the input reads as it did. -/
def fnExactEventsOkSpec : ChangeSpec := { name := "fnExactEventsOk", fn := fun _ => fun
  | [d] => { results := [.lit (.bool true)], args := [d] }
  | _ => none }
def fnExactEventsOkRow : OpenClaim := { program := "ytckbhihdhcgaeaa", sum := "3e87dc81c44e0a0da7c18410eba1d593e802e79b581c962748f62fd0cc238c13", func := "loop.example/g00225/laws.FnExactEventsOk", spec := "fnExactEventsOk", inPlace := ["math/bits.Sub64", "math/bits.Add64"], named := ["math/bits.divideError", "math/bits.overflowError"], apart := false }
def FnExactEventsOkSaid : Prop := fnExactEventsOkRow.holds Try.pinned (OpenSpec.ofChange fnExactEventsOkSpec)

/-- ITS FALSE NEIGHBOUR: 'it returns false'. Refute it at one input. -/
def fnExactEventsOkWrong : ChangeSpec := { name := "fnExactEventsOk", fn := fun _ => fun
  | [d] => { results := [.lit (.bool false)], args := [d] }
  | _ => none }
def FnExactEventsOkWrongFalsely : Prop := fnExactEventsOkRow.holds Try.pinned (OpenSpec.ofChange fnExactEventsOkWrong)

/- THE SECOND FORM. 'bulk': how many values and letters a reading holds, each counted each time it is reached (what is shared counts as often as it is met; a slice's spare places count too). A statement '..UptoSaid' is the law's where the arguments, and the package variables that the reading takes, are together of bulk at most 1048576: NARROWER than '..Said'. Prove '..Said' where nothing that the law and all that it calls make is longer than what came in: it says more and counts as full. Else prove '..UptoSaid'. A law counts once. -/
mutual
def uptoBulk {H : Type} : DataW H → Nat
  | .lit (.string bytes) => bytes.length + 1
  | .lit _ => 1
  | .nil => 1
  | .ptr d => uptoBulk d + 1
  | .slice elems spare => uptoBulkAll elems + uptoBulkAll spare + 1
  | .agg parts => uptoBulkAll parts + 1
  | .iface _ d => uptoBulk d + 1
  | .map entries => uptoBulkEntries entries + 1
  | .held _ => 1
def uptoBulkAll {H : Type} : List (DataW H) → Nat
  | [] => 0
  | d :: r => uptoBulk d + uptoBulkAll r
def uptoBulkEntries {H : Type} : List (Lit × DataW H) → Nat
  | [] => 0
  | x :: r => uptoBulkEntry x + uptoBulkEntries r
def uptoBulkEntry {H : Type} : Lit × DataW H → Nat
  | (.string bytes, d) => bytes.length + uptoBulk d + 1
  | (_, d) => uptoBulk d + 1
 end
def uptoSmall : (H : Type) → List (DataW H) → Bool := fun _ ds => decide (uptoBulkAll ds ≤ 1048576)
def OpenSpec.upto (s : _root_.Go.ChangeSpec) : _root_.Go.OpenSpec := { _root_.Go.OpenSpec.ofChange s with cond := some uptoSmall }

/-- 'laws.FnExactPointOk', WHERE WHAT IT READS IS OF BULK AT MOST 1048576: true; the input reads as it did. -/
def fnExactPointOkUptoRow : OpenClaim := { program := "ytckbhihdhcgaeaa", sum := "3e87dc81c44e0a0da7c18410eba1d593e802e79b581c962748f62fd0cc238c13", func := "loop.example/g00225/laws.FnExactPointOk", spec := "fnExactPointOk", inPlace := ["math/bits.Sub64", "math/bits.Add64"], named := ["math/bits.divideError", "math/bits.overflowError"], apart := false, narrowed := true }
def FnExactPointOkUptoSaid : Prop := fnExactPointOkUptoRow.holds Try.pinned (OpenSpec.upto fnExactPointOkSpec)

/-- 'laws.FnExactPointMake', WHERE WHAT IT READS IS OF BULK AT MOST 1048576: true; the input reads as it did. -/
def fnExactPointMakeUptoRow : OpenClaim := { program := "ytckbhihdhcgaeaa", sum := "3e87dc81c44e0a0da7c18410eba1d593e802e79b581c962748f62fd0cc238c13", func := "loop.example/g00225/laws.FnExactPointMake", spec := "fnExactPointMake", inPlace := ["math/bits.Sub64", "math/bits.Add64"], named := ["math/bits.divideError", "math/bits.overflowError"], apart := false, narrowed := true }
def FnExactPointMakeUptoSaid : Prop := fnExactPointMakeUptoRow.holds Try.pinned (OpenSpec.upto fnExactPointMakeSpec)

/-- 'laws.FnExactPointCmp', WHERE WHAT IT READS IS OF BULK AT MOST 1048576: true; the input reads as it did. -/
def fnExactPointCmpUptoRow : OpenClaim := { program := "ytckbhihdhcgaeaa", sum := "3e87dc81c44e0a0da7c18410eba1d593e802e79b581c962748f62fd0cc238c13", func := "loop.example/g00225/laws.FnExactPointCmp", spec := "fnExactPointCmp", inPlace := ["math/bits.Sub64", "math/bits.Add64"], named := ["math/bits.divideError", "math/bits.overflowError"], apart := false, narrowed := true }
def FnExactPointCmpUptoSaid : Prop := fnExactPointCmpUptoRow.holds Try.pinned (OpenSpec.upto fnExactPointCmpSpec)

/-- 'laws.FnExactOrient', WHERE WHAT IT READS IS OF BULK AT MOST 1048576: true; the input reads as it did. -/
def fnExactOrientUptoRow : OpenClaim := { program := "ytckbhihdhcgaeaa", sum := "3e87dc81c44e0a0da7c18410eba1d593e802e79b581c962748f62fd0cc238c13", func := "loop.example/g00225/laws.FnExactOrient", spec := "fnExactOrient", inPlace := ["math/bits.Sub64", "math/bits.Add64"], named := ["math/bits.divideError", "math/bits.overflowError"], apart := false, narrowed := true }
def FnExactOrientUptoSaid : Prop := fnExactOrientUptoRow.holds Try.pinned (OpenSpec.upto fnExactOrientSpec)

/-- 'laws.FnExactBetween', WHERE WHAT IT READS IS OF BULK AT MOST 1048576: true; the input reads as it did. -/
def fnExactBetweenUptoRow : OpenClaim := { program := "ytckbhihdhcgaeaa", sum := "3e87dc81c44e0a0da7c18410eba1d593e802e79b581c962748f62fd0cc238c13", func := "loop.example/g00225/laws.FnExactBetween", spec := "fnExactBetween", inPlace := ["math/bits.Sub64", "math/bits.Add64"], named := ["math/bits.divideError", "math/bits.overflowError"], apart := false, narrowed := true }
def FnExactBetweenUptoSaid : Prop := fnExactBetweenUptoRow.holds Try.pinned (OpenSpec.upto fnExactBetweenSpec)

/-- 'laws.FnExactDist2', WHERE WHAT IT READS IS OF BULK AT MOST 1048576: true; the input reads as it did. -/
def fnExactDist2UptoRow : OpenClaim := { program := "ytckbhihdhcgaeaa", sum := "3e87dc81c44e0a0da7c18410eba1d593e802e79b581c962748f62fd0cc238c13", func := "loop.example/g00225/laws.FnExactDist2", spec := "fnExactDist2", inPlace := ["math/bits.Sub64", "math/bits.Add64"], named := ["math/bits.divideError", "math/bits.overflowError"], apart := false, narrowed := true }
def FnExactDist2UptoSaid : Prop := fnExactDist2UptoRow.holds Try.pinned (OpenSpec.upto fnExactDist2Spec)

/-- 'laws.FnExactMiddle', WHERE WHAT IT READS IS OF BULK AT MOST 1048576: true; the input reads as it did. -/
def fnExactMiddleUptoRow : OpenClaim := { program := "ytckbhihdhcgaeaa", sum := "3e87dc81c44e0a0da7c18410eba1d593e802e79b581c962748f62fd0cc238c13", func := "loop.example/g00225/laws.FnExactMiddle", spec := "fnExactMiddle", inPlace := ["math/bits.Sub64", "math/bits.Add64"], named := ["math/bits.divideError", "math/bits.overflowError"], apart := false, narrowed := true }
def FnExactMiddleUptoSaid : Prop := fnExactMiddleUptoRow.holds Try.pinned (OpenSpec.upto fnExactMiddleSpec)

/-- 'laws.FnExactSideOf', WHERE WHAT IT READS IS OF BULK AT MOST 1048576: true; the input reads as it did. -/
def fnExactSideOfUptoRow : OpenClaim := { program := "ytckbhihdhcgaeaa", sum := "3e87dc81c44e0a0da7c18410eba1d593e802e79b581c962748f62fd0cc238c13", func := "loop.example/g00225/laws.FnExactSideOf", spec := "fnExactSideOf", inPlace := ["math/bits.Sub64", "math/bits.Add64"], named := ["math/bits.divideError", "math/bits.overflowError"], apart := false, narrowed := true }
def FnExactSideOfUptoSaid : Prop := fnExactSideOfUptoRow.holds Try.pinned (OpenSpec.upto fnExactSideOfSpec)

/-- 'laws.FnExactOnSeg', WHERE WHAT IT READS IS OF BULK AT MOST 1048576: true; the input reads as it did. -/
def fnExactOnSegUptoRow : OpenClaim := { program := "ytckbhihdhcgaeaa", sum := "3e87dc81c44e0a0da7c18410eba1d593e802e79b581c962748f62fd0cc238c13", func := "loop.example/g00225/laws.FnExactOnSeg", spec := "fnExactOnSeg", inPlace := ["math/bits.Sub64", "math/bits.Add64"], named := ["math/bits.divideError", "math/bits.overflowError"], apart := false, narrowed := true }
def FnExactOnSegUptoSaid : Prop := fnExactOnSegUptoRow.holds Try.pinned (OpenSpec.upto fnExactOnSegSpec)

/-- 'laws.FnExactMeet', WHERE WHAT IT READS IS OF BULK AT MOST 1048576: true; the input reads as it did. -/
def fnExactMeetUptoRow : OpenClaim := { program := "ytckbhihdhcgaeaa", sum := "3e87dc81c44e0a0da7c18410eba1d593e802e79b581c962748f62fd0cc238c13", func := "loop.example/g00225/laws.FnExactMeet", spec := "fnExactMeet", apart := false, narrowed := true }
def FnExactMeetUptoSaid : Prop := fnExactMeetUptoRow.holds Try.pinned (OpenSpec.upto fnExactMeetSpec)

/-- 'laws.FnExactNear2', WHERE WHAT IT READS IS OF BULK AT MOST 1048576: true; the input reads as it did. -/
def fnExactNear2UptoRow : OpenClaim := { program := "ytckbhihdhcgaeaa", sum := "3e87dc81c44e0a0da7c18410eba1d593e802e79b581c962748f62fd0cc238c13", func := "loop.example/g00225/laws.FnExactNear2", spec := "fnExactNear2", inPlace := ["math/bits.Sub64", "math/bits.Add64"], named := ["math/bits.divideError", "math/bits.overflowError"], apart := false, narrowed := true }
def FnExactNear2UptoSaid : Prop := fnExactNear2UptoRow.holds Try.pinned (OpenSpec.upto fnExactNear2Spec)

/-- 'laws.FnExactOverAt', WHERE WHAT IT READS IS OF BULK AT MOST 1048576: true; the input reads as it did. -/
def fnExactOverAtUptoRow : OpenClaim := { program := "ytckbhihdhcgaeaa", sum := "3e87dc81c44e0a0da7c18410eba1d593e802e79b581c962748f62fd0cc238c13", func := "loop.example/g00225/laws.FnExactOverAt", spec := "fnExactOverAt", inPlace := ["math/bits.Sub64", "math/bits.Add64"], named := ["math/bits.divideError", "math/bits.overflowError"], apart := false, narrowed := true }
def FnExactOverAtUptoSaid : Prop := fnExactOverAtUptoRow.holds Try.pinned (OpenSpec.upto fnExactOverAtSpec)

/-- 'laws.FnExactSegsFault', WHERE WHAT IT READS IS OF BULK AT MOST 1048576: true; the input reads as it did. -/
def fnExactSegsFaultUptoRow : OpenClaim := { program := "ytckbhihdhcgaeaa", sum := "3e87dc81c44e0a0da7c18410eba1d593e802e79b581c962748f62fd0cc238c13", func := "loop.example/g00225/laws.FnExactSegsFault", spec := "fnExactSegsFault", apart := false, narrowed := true }
def FnExactSegsFaultUptoSaid : Prop := fnExactSegsFaultUptoRow.holds Try.pinned (OpenSpec.upto fnExactSegsFaultSpec)

/-- 'laws.FnExactEventsOk', WHERE WHAT IT READS IS OF BULK AT MOST 1048576: true; the input reads as it did. -/
def fnExactEventsOkUptoRow : OpenClaim := { program := "ytckbhihdhcgaeaa", sum := "3e87dc81c44e0a0da7c18410eba1d593e802e79b581c962748f62fd0cc238c13", func := "loop.example/g00225/laws.FnExactEventsOk", spec := "fnExactEventsOk", inPlace := ["math/bits.Sub64", "math/bits.Add64"], named := ["math/bits.divideError", "math/bits.overflowError"], apart := false, narrowed := true }
def FnExactEventsOkUptoSaid : Prop := fnExactEventsOkUptoRow.holds Try.pinned (OpenSpec.upto fnExactEventsOkSpec)

end Rows
end Go.Proofs.Ytckbhihdhcgaeaa
