/-
  No cell of these rows narrows 'for every input' (looked for: loops, veiled, ifaces, maps, wideKeys, modest, calm, conditions, laid).
  DERIVED. THE GIVEN ROWS OF THIS SEAT. 9 by the template 'for every input the law returns true; each argument reads behind the call as it read before'; 0 by the template 'total and deterministic' (their statements: YtlfogfjehdgjmaaTotals.lean).
  GIVEN WITH THE SEED: the statements are not yours to turn. If you find one false, say at which input.
  Laid BY PROGRAM, IN A SANDBOX (cutbox-rows.mjs): the forced cells as the released guide's own fill.sh prints them over the translation a4686f715bd31064… (all of the seat's roots in one cut). By AI agents, Wed Nov 11 2026. No macro, syntax, notation, axiom, sorry.
-/
import Derived.Test.YtlfogfjehdgjmaaChecked
import GoSem.Claim
import GoSem.ClaimJoined
import GoSem.ClaimMapViews
import Derived.JoinedTies
import Derived.KernelRfl
namespace Go.Proofs.Ytlfogfjehdgjmaa
/- THE CELL 'sum', in the pinned program and in every row, IS THE sha256 OF THE DUMP (.gsa) THAT YtlfogfjehdgjmaaProg.lean LOADS. Nothing in Lean hashes anything: it is a label: what it is worth is what the hold of that sum in a sandbox is worth. -/
noncomputable def Try.pinned : Pinned := { name := "ytlfogfjehdgjmaa", sum := "a4686f715bd31064a34a2dcd276e33245e9ddb4aa30f612fd118eebabcf3f8f6", checked := Try.checked }
namespace Rows
def none {H : Type} : Left H := { results := [], args := [] }

/-- 'laws.FnMasks': WHATEVER THE INPUT: true; the input reads as it did. -/
def fnMasksSpec : ChangeSpec := { name := "fnMasks", fn := fun _ => fun
  | [d] => { results := [.lit (.bool true)], args := [d] }
  | _ => none }
def fnMasksRow : OpenClaim := { program := "ytlfogfjehdgjmaa", sum := "a4686f715bd31064a34a2dcd276e33245e9ddb4aa30f612fd118eebabcf3f8f6", func := "loop.example/g00225/laws.FnMasks", spec := "fnMasks", inPlace := ["internal/bytealg.IndexByteString"], apart := false }
def FnMasksSaid : Prop := fnMasksRow.holds Try.pinned (OpenSpec.ofChange fnMasksSpec)

/-- ITS FALSE NEIGHBOUR: 'it returns false'. Refute it at one input. -/
def fnMasksWrong : ChangeSpec := { name := "fnMasks", fn := fun _ => fun
  | [d] => { results := [.lit (.bool false)], args := [d] }
  | _ => none }
def FnMasksWrongFalsely : Prop := fnMasksRow.holds Try.pinned (OpenSpec.ofChange fnMasksWrong)

/-- 'laws.FnExactRatioCmp': WHATEVER THE INPUT: true; the input reads as it did. -/
def fnExactRatioCmpSpec : ChangeSpec := { name := "fnExactRatioCmp", fn := fun _ => fun
  | [d1, d2] => { results := [.lit (.bool true)], args := [d1, d2] }
  | _ => none }
def fnExactRatioCmpRow : OpenClaim := { program := "ytlfogfjehdgjmaa", sum := "a4686f715bd31064a34a2dcd276e33245e9ddb4aa30f612fd118eebabcf3f8f6", func := "loop.example/g00225/laws.FnExactRatioCmp", spec := "fnExactRatioCmp", inPlace := ["math/bits.Sub64", "math/bits.Add64"], named := ["math/bits.divideError", "math/bits.overflowError"], apart := false }
def FnExactRatioCmpSaid : Prop := fnExactRatioCmpRow.holds Try.pinned (OpenSpec.ofChange fnExactRatioCmpSpec)

/-- ITS FALSE NEIGHBOUR: 'it returns false'. Refute it at one input. -/
def fnExactRatioCmpWrong : ChangeSpec := { name := "fnExactRatioCmp", fn := fun _ => fun
  | [d1, d2] => { results := [.lit (.bool false)], args := [d1, d2] }
  | _ => none }
def FnExactRatioCmpWrongFalsely : Prop := fnExactRatioCmpRow.holds Try.pinned (OpenSpec.ofChange fnExactRatioCmpWrong)

/-- 'laws.FnExactMaskOk': WHATEVER THE INPUT: true; the input reads as it did. -/
def fnExactMaskOkSpec : ChangeSpec := { name := "fnExactMaskOk", fn := fun _ => fun
  | [d] => { results := [.lit (.bool true)], args := [d] }
  | _ => none }
def fnExactMaskOkRow : OpenClaim := { program := "ytlfogfjehdgjmaa", sum := "a4686f715bd31064a34a2dcd276e33245e9ddb4aa30f612fd118eebabcf3f8f6", func := "loop.example/g00225/laws.FnExactMaskOk", spec := "fnExactMaskOk", inPlace := ["internal/bytealg.IndexByteString"], apart := false }
def FnExactMaskOkSaid : Prop := fnExactMaskOkRow.holds Try.pinned (OpenSpec.ofChange fnExactMaskOkSpec)

/-- ITS FALSE NEIGHBOUR: 'it returns false'. Refute it at one input. -/
def fnExactMaskOkWrong : ChangeSpec := { name := "fnExactMaskOk", fn := fun _ => fun
  | [d] => { results := [.lit (.bool false)], args := [d] }
  | _ => none }
def FnExactMaskOkWrongFalsely : Prop := fnExactMaskOkRow.holds Try.pinned (OpenSpec.ofChange fnExactMaskOkWrong)

/-- 'laws.FnExactMatches': WHATEVER THE INPUT: true; the input reads as it did. -/
def fnExactMatchesSpec : ChangeSpec := { name := "fnExactMatches", fn := fun _ => fun
  | [d1, d2] => { results := [.lit (.bool true)], args := [d1, d2] }
  | _ => none }
def fnExactMatchesRow : OpenClaim := { program := "ytlfogfjehdgjmaa", sum := "a4686f715bd31064a34a2dcd276e33245e9ddb4aa30f612fd118eebabcf3f8f6", func := "loop.example/g00225/laws.FnExactMatches", spec := "fnExactMatches", inPlace := ["internal/bytealg.IndexByteString"], apart := false }
def FnExactMatchesSaid : Prop := fnExactMatchesRow.holds Try.pinned (OpenSpec.ofChange fnExactMatchesSpec)

/-- ITS FALSE NEIGHBOUR: 'it returns false'. Refute it at one input. -/
def fnExactMatchesWrong : ChangeSpec := { name := "fnExactMatches", fn := fun _ => fun
  | [d1, d2] => { results := [.lit (.bool false)], args := [d1, d2] }
  | _ => none }
def FnExactMatchesWrongFalsely : Prop := fnExactMatchesRow.holds Try.pinned (OpenSpec.ofChange fnExactMatchesWrong)

/-- 'laws.FnExactNamed': WHATEVER THE INPUT: true; the input reads as it did. -/
def fnExactNamedSpec : ChangeSpec := { name := "fnExactNamed", fn := fun _ => fun
  | [d1, d2] => { results := [.lit (.bool true)], args := [d1, d2] }
  | _ => none }
def fnExactNamedRow : OpenClaim := { program := "ytlfogfjehdgjmaa", sum := "a4686f715bd31064a34a2dcd276e33245e9ddb4aa30f612fd118eebabcf3f8f6", func := "loop.example/g00225/laws.FnExactNamed", spec := "fnExactNamed", inPlace := ["internal/bytealg.IndexByteString"], apart := false }
def FnExactNamedSaid : Prop := fnExactNamedRow.holds Try.pinned (OpenSpec.ofChange fnExactNamedSpec)

/-- ITS FALSE NEIGHBOUR: 'it returns false'. Refute it at one input. -/
def fnExactNamedWrong : ChangeSpec := { name := "fnExactNamed", fn := fun _ => fun
  | [d1, d2] => { results := [.lit (.bool false)], args := [d1, d2] }
  | _ => none }
def FnExactNamedWrongFalsely : Prop := fnExactNamedRow.holds Try.pinned (OpenSpec.ofChange fnExactNamedWrong)

/-- 'laws.FnExactTransposed': WHATEVER THE INPUT: true; the input reads as it did. -/
def fnExactTransposedSpec : ChangeSpec := { name := "fnExactTransposed", fn := fun _ => fun
  | [d] => { results := [.lit (.bool true)], args := [d] }
  | _ => none }
def fnExactTransposedRow : OpenClaim := { program := "ytlfogfjehdgjmaa", sum := "a4686f715bd31064a34a2dcd276e33245e9ddb4aa30f612fd118eebabcf3f8f6", func := "loop.example/g00225/laws.FnExactTransposed", spec := "fnExactTransposed", inPlace := ["internal/bytealg.IndexByteString"], apart := false }
def FnExactTransposedSaid : Prop := fnExactTransposedRow.holds Try.pinned (OpenSpec.ofChange fnExactTransposedSpec)

/-- ITS FALSE NEIGHBOUR: 'it returns false'. Refute it at one input. -/
def fnExactTransposedWrong : ChangeSpec := { name := "fnExactTransposed", fn := fun _ => fun
  | [d] => { results := [.lit (.bool false)], args := [d] }
  | _ => none }
def FnExactTransposedWrongFalsely : Prop := fnExactTransposedRow.holds Try.pinned (OpenSpec.ofChange fnExactTransposedWrong)

/-- 'laws.FnExactNearestSeg': WHATEVER THE INPUT: true; the input reads as it did. -/
def fnExactNearestSegSpec : ChangeSpec := { name := "fnExactNearestSeg", fn := fun _ => fun
  | [d1, d2] => { results := [.lit (.bool true)], args := [d1, d2] }
  | _ => none }
def fnExactNearestSegRow : OpenClaim := { program := "ytlfogfjehdgjmaa", sum := "a4686f715bd31064a34a2dcd276e33245e9ddb4aa30f612fd118eebabcf3f8f6", func := "loop.example/g00225/laws.FnExactNearestSeg", spec := "fnExactNearestSeg", inPlace := ["math/bits.Sub64", "math/bits.Add64"], unfollowed := true, recurses := true, named := ["math/bits.divideError", "math/bits.overflowError"], apart := false }
def FnExactNearestSegSaid : Prop := fnExactNearestSegRow.holds Try.pinned (OpenSpec.ofChange fnExactNearestSegSpec)

/-- ITS FALSE NEIGHBOUR: 'it returns false'. Refute it at one input. -/
def fnExactNearestSegWrong : ChangeSpec := { name := "fnExactNearestSeg", fn := fun _ => fun
  | [d1, d2] => { results := [.lit (.bool false)], args := [d1, d2] }
  | _ => none }
def FnExactNearestSegWrongFalsely : Prop := fnExactNearestSegRow.holds Try.pinned (OpenSpec.ofChange fnExactNearestSegWrong)

/-- 'laws.FnExactWindowSegs': WHATEVER THE INPUT: true; the input reads as it did. -/
def fnExactWindowSegsSpec : ChangeSpec := { name := "fnExactWindowSegs", fn := fun _ => fun
  | [d1, d2, d3] => { results := [.lit (.bool true)], args := [d1, d2, d3] }
  | _ => none }
def fnExactWindowSegsRow : OpenClaim := { program := "ytlfogfjehdgjmaa", sum := "a4686f715bd31064a34a2dcd276e33245e9ddb4aa30f612fd118eebabcf3f8f6", func := "loop.example/g00225/laws.FnExactWindowSegs", spec := "fnExactWindowSegs", apart := false }
def FnExactWindowSegsSaid : Prop := fnExactWindowSegsRow.holds Try.pinned (OpenSpec.ofChange fnExactWindowSegsSpec)

/-- ITS FALSE NEIGHBOUR: 'it returns false'. Refute it at one input. -/
def fnExactWindowSegsWrong : ChangeSpec := { name := "fnExactWindowSegs", fn := fun _ => fun
  | [d1, d2, d3] => { results := [.lit (.bool false)], args := [d1, d2, d3] }
  | _ => none }
def FnExactWindowSegsWrongFalsely : Prop := fnExactWindowSegsRow.holds Try.pinned (OpenSpec.ofChange fnExactWindowSegsWrong)

/-- 'laws.FnExactFree': WHATEVER THE INPUT: true; the input reads as it did. -/
def fnExactFreeSpec : ChangeSpec := { name := "fnExactFree", fn := fun _ => fun
  | [d1, d2] => { results := [.lit (.bool true)], args := [d1, d2] }
  | _ => none }
def fnExactFreeRow : OpenClaim := { program := "ytlfogfjehdgjmaa", sum := "a4686f715bd31064a34a2dcd276e33245e9ddb4aa30f612fd118eebabcf3f8f6", func := "loop.example/g00225/laws.FnExactFree", spec := "fnExactFree", inPlace := ["math/bits.Sub64", "math/bits.Add64"], unfollowed := true, recurses := true, apart := false }
def FnExactFreeSaid : Prop := fnExactFreeRow.holds Try.pinned (OpenSpec.ofChange fnExactFreeSpec)

/-- ITS FALSE NEIGHBOUR: 'it returns false'. Refute it at one input. -/
def fnExactFreeWrong : ChangeSpec := { name := "fnExactFree", fn := fun _ => fun
  | [d1, d2] => { results := [.lit (.bool false)], args := [d1, d2] }
  | _ => none }
def FnExactFreeWrongFalsely : Prop := fnExactFreeRow.holds Try.pinned (OpenSpec.ofChange fnExactFreeWrong)

/- THE SECOND FORM. 'bulk': how many values and letters a reading holds, each counted each time it is reached (what is shared counts as often as it is met; a slice's spare places count too). A statement '..UptoSaid' is the law's where the arguments, and the package variables that the reading takes, are together of bulk at most 1048576: NARROWER than '..Said'. Prove '..Said' where nothing that the law and all that it calls make is longer than what came in: it says more and counts as full. Else prove '..UptoSaid'. A law counts once. -/
mutual
def uptoBulk {H : Type} : DataW H → Nat
  | .lit (.string bytes) => bytes.length + 1
  | .lit _ => 1
  | .nil => 1
  | .ptr d => uptoBulk d + 1
  | .slice elems spare => uptoBulkAll elems + uptoBulkAll spare + 1
  | .agg parts => uptoBulkAll parts + 1
  | .iface _ d => uptoBulk d + 1
  | .map entries => uptoBulkEntries entries + 1
  | .held _ => 1
def uptoBulkAll {H : Type} : List (DataW H) → Nat
  | [] => 0
  | d :: r => uptoBulk d + uptoBulkAll r
def uptoBulkEntries {H : Type} : List (Lit × DataW H) → Nat
  | [] => 0
  | x :: r => uptoBulkEntry x + uptoBulkEntries r
def uptoBulkEntry {H : Type} : Lit × DataW H → Nat
  | (.string bytes, d) => bytes.length + uptoBulk d + 1
  | (_, d) => uptoBulk d + 1
 end
def uptoSmall : (H : Type) → List (DataW H) → Bool := fun _ ds => decide (uptoBulkAll ds ≤ 1048576)
def OpenSpec.upto (s : _root_.Go.ChangeSpec) : _root_.Go.OpenSpec := { _root_.Go.OpenSpec.ofChange s with cond := some uptoSmall }

/-- 'laws.FnMasks', WHERE WHAT IT READS IS OF BULK AT MOST 1048576: true; the input reads as it did. -/
def fnMasksUptoRow : OpenClaim := { program := "ytlfogfjehdgjmaa", sum := "a4686f715bd31064a34a2dcd276e33245e9ddb4aa30f612fd118eebabcf3f8f6", func := "loop.example/g00225/laws.FnMasks", spec := "fnMasks", inPlace := ["internal/bytealg.IndexByteString"], apart := false, narrowed := true }
def FnMasksUptoSaid : Prop := fnMasksUptoRow.holds Try.pinned (OpenSpec.upto fnMasksSpec)

/-- 'laws.FnExactRatioCmp', WHERE WHAT IT READS IS OF BULK AT MOST 1048576: true; the input reads as it did. -/
def fnExactRatioCmpUptoRow : OpenClaim := { program := "ytlfogfjehdgjmaa", sum := "a4686f715bd31064a34a2dcd276e33245e9ddb4aa30f612fd118eebabcf3f8f6", func := "loop.example/g00225/laws.FnExactRatioCmp", spec := "fnExactRatioCmp", inPlace := ["math/bits.Sub64", "math/bits.Add64"], named := ["math/bits.divideError", "math/bits.overflowError"], apart := false, narrowed := true }
def FnExactRatioCmpUptoSaid : Prop := fnExactRatioCmpUptoRow.holds Try.pinned (OpenSpec.upto fnExactRatioCmpSpec)

/-- 'laws.FnExactMaskOk', WHERE WHAT IT READS IS OF BULK AT MOST 1048576: true; the input reads as it did. -/
def fnExactMaskOkUptoRow : OpenClaim := { program := "ytlfogfjehdgjmaa", sum := "a4686f715bd31064a34a2dcd276e33245e9ddb4aa30f612fd118eebabcf3f8f6", func := "loop.example/g00225/laws.FnExactMaskOk", spec := "fnExactMaskOk", inPlace := ["internal/bytealg.IndexByteString"], apart := false, narrowed := true }
def FnExactMaskOkUptoSaid : Prop := fnExactMaskOkUptoRow.holds Try.pinned (OpenSpec.upto fnExactMaskOkSpec)

/-- 'laws.FnExactMatches', WHERE WHAT IT READS IS OF BULK AT MOST 1048576: true; the input reads as it did. -/
def fnExactMatchesUptoRow : OpenClaim := { program := "ytlfogfjehdgjmaa", sum := "a4686f715bd31064a34a2dcd276e33245e9ddb4aa30f612fd118eebabcf3f8f6", func := "loop.example/g00225/laws.FnExactMatches", spec := "fnExactMatches", inPlace := ["internal/bytealg.IndexByteString"], apart := false, narrowed := true }
def FnExactMatchesUptoSaid : Prop := fnExactMatchesUptoRow.holds Try.pinned (OpenSpec.upto fnExactMatchesSpec)

/-- 'laws.FnExactNamed', WHERE WHAT IT READS IS OF BULK AT MOST 1048576: true; the input reads as it did. -/
def fnExactNamedUptoRow : OpenClaim := { program := "ytlfogfjehdgjmaa", sum := "a4686f715bd31064a34a2dcd276e33245e9ddb4aa30f612fd118eebabcf3f8f6", func := "loop.example/g00225/laws.FnExactNamed", spec := "fnExactNamed", inPlace := ["internal/bytealg.IndexByteString"], apart := false, narrowed := true }
def FnExactNamedUptoSaid : Prop := fnExactNamedUptoRow.holds Try.pinned (OpenSpec.upto fnExactNamedSpec)

/-- 'laws.FnExactTransposed', WHERE WHAT IT READS IS OF BULK AT MOST 1048576: true; the input reads as it did. -/
def fnExactTransposedUptoRow : OpenClaim := { program := "ytlfogfjehdgjmaa", sum := "a4686f715bd31064a34a2dcd276e33245e9ddb4aa30f612fd118eebabcf3f8f6", func := "loop.example/g00225/laws.FnExactTransposed", spec := "fnExactTransposed", inPlace := ["internal/bytealg.IndexByteString"], apart := false, narrowed := true }
def FnExactTransposedUptoSaid : Prop := fnExactTransposedUptoRow.holds Try.pinned (OpenSpec.upto fnExactTransposedSpec)

/-- 'laws.FnExactNearestSeg', WHERE WHAT IT READS IS OF BULK AT MOST 1048576: true; the input reads as it did. -/
def fnExactNearestSegUptoRow : OpenClaim := { program := "ytlfogfjehdgjmaa", sum := "a4686f715bd31064a34a2dcd276e33245e9ddb4aa30f612fd118eebabcf3f8f6", func := "loop.example/g00225/laws.FnExactNearestSeg", spec := "fnExactNearestSeg", inPlace := ["math/bits.Sub64", "math/bits.Add64"], unfollowed := true, recurses := true, named := ["math/bits.divideError", "math/bits.overflowError"], apart := false, narrowed := true }
def FnExactNearestSegUptoSaid : Prop := fnExactNearestSegUptoRow.holds Try.pinned (OpenSpec.upto fnExactNearestSegSpec)

/-- 'laws.FnExactWindowSegs', WHERE WHAT IT READS IS OF BULK AT MOST 1048576: true; the input reads as it did. -/
def fnExactWindowSegsUptoRow : OpenClaim := { program := "ytlfogfjehdgjmaa", sum := "a4686f715bd31064a34a2dcd276e33245e9ddb4aa30f612fd118eebabcf3f8f6", func := "loop.example/g00225/laws.FnExactWindowSegs", spec := "fnExactWindowSegs", apart := false, narrowed := true }
def FnExactWindowSegsUptoSaid : Prop := fnExactWindowSegsUptoRow.holds Try.pinned (OpenSpec.upto fnExactWindowSegsSpec)

/-- 'laws.FnExactFree', WHERE WHAT IT READS IS OF BULK AT MOST 1048576: true; the input reads as it did. -/
def fnExactFreeUptoRow : OpenClaim := { program := "ytlfogfjehdgjmaa", sum := "a4686f715bd31064a34a2dcd276e33245e9ddb4aa30f612fd118eebabcf3f8f6", func := "loop.example/g00225/laws.FnExactFree", spec := "fnExactFree", inPlace := ["math/bits.Sub64", "math/bits.Add64"], unfollowed := true, recurses := true, apart := false, narrowed := true }
def FnExactFreeUptoSaid : Prop := fnExactFreeUptoRow.holds Try.pinned (OpenSpec.upto fnExactFreeSpec)

end Rows
end Go.Proofs.Ytlfogfjehdgjmaa
