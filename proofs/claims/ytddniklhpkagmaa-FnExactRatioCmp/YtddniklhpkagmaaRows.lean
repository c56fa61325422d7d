/-
  No cell of these rows narrows 'for every input' (looked for: loops, veiled, ifaces, maps, wideKeys, modest, calm, conditions, laid).
  DERIVED. THE GIVEN ROWS OF THIS SEAT. 14 by the template 'for every input the law returns true; each argument reads behind the call as it read before'; 0 by the template 'total and deterministic' (their statements: YtddniklhpkagmaaTotals.lean).
  GIVEN WITH THE SEED: the statements are not yours to turn. If you find one false, say at which input.
  Laid BY PROGRAM, IN A SANDBOX (cutbox-rows.mjs): the forced cells as the released guide's own fill.sh prints them over the translation b6aa377927d36572… (all of the seat's roots in one cut). By AI agents, Wed Nov 11 2026. No macro, syntax, notation, axiom, sorry.
-/
import Derived.Test.YtddniklhpkagmaaChecked
import GoSem.Claim
import GoSem.ClaimJoined
import GoSem.ClaimMapViews
import Derived.JoinedTies
import Derived.KernelRfl
namespace Go.Proofs.Ytddniklhpkagmaa
/- THE CELL 'sum', in the pinned program and in every row, IS THE sha256 OF THE DUMP (.gsa) THAT YtddniklhpkagmaaProg.lean LOADS. Nothing in Lean hashes anything: it is a label: what it is worth is what the hold of that sum in a sandbox is worth. -/
noncomputable def Try.pinned : Pinned := { name := "ytddniklhpkagmaa", sum := "b6aa377927d365729502b16cbc6fecd3d0a5cbd535639f796ad235f097e4832e", checked := Try.checked }
namespace Rows
def none {H : Type} : Left H := { results := [], args := [] }

/-- 'laws.FnExactWideMul': WHATEVER THE INPUT: true; the input reads as it did. -/
def fnExactWideMulSpec : ChangeSpec := { name := "fnExactWideMul", fn := fun _ => fun
  | [d1, d2] => { results := [.lit (.bool true)], args := [d1, d2] }
  | _ => none }
def fnExactWideMulRow : OpenClaim := { program := "ytddniklhpkagmaa", sum := "b6aa377927d365729502b16cbc6fecd3d0a5cbd535639f796ad235f097e4832e", func := "loop.example/g00225/laws.FnExactWideMul", spec := "fnExactWideMul", inPlace := ["math/bits.Sub64", "math/bits.Add64"], apart := false }
def FnExactWideMulSaid : Prop := fnExactWideMulRow.holds Try.pinned (OpenSpec.ofChange fnExactWideMulSpec)

/-- ITS FALSE NEIGHBOUR: 'it returns false'. Refute it at one input. -/
def fnExactWideMulWrong : ChangeSpec := { name := "fnExactWideMul", fn := fun _ => fun
  | [d1, d2] => { results := [.lit (.bool false)], args := [d1, d2] }
  | _ => none }
def FnExactWideMulWrongFalsely : Prop := fnExactWideMulRow.holds Try.pinned (OpenSpec.ofChange fnExactWideMulWrong)

/-- 'laws.FnExactWideDiv': WHATEVER THE INPUT: true; the input reads as it did. -/
def fnExactWideDivSpec : ChangeSpec := { name := "fnExactWideDiv", fn := fun _ => fun
  | [d1, d2] => { results := [.lit (.bool true)], args := [d1, d2] }
  | _ => none }
def fnExactWideDivRow : OpenClaim := { program := "ytddniklhpkagmaa", sum := "b6aa377927d365729502b16cbc6fecd3d0a5cbd535639f796ad235f097e4832e", func := "loop.example/g00225/laws.FnExactWideDiv", spec := "fnExactWideDiv", inPlace := ["math/bits.Sub64", "math/bits.Add64"], named := ["math/bits.divideError", "math/bits.overflowError"], apart := false }
def FnExactWideDivSaid : Prop := fnExactWideDivRow.holds Try.pinned (OpenSpec.ofChange fnExactWideDivSpec)

/-- ITS FALSE NEIGHBOUR: 'it returns false'. Refute it at one input. -/
def fnExactWideDivWrong : ChangeSpec := { name := "fnExactWideDiv", fn := fun _ => fun
  | [d1, d2] => { results := [.lit (.bool false)], args := [d1, d2] }
  | _ => none }
def FnExactWideDivWrongFalsely : Prop := fnExactWideDivRow.holds Try.pinned (OpenSpec.ofChange fnExactWideDivWrong)

/-- 'laws.FnExactWideGcd': WHATEVER THE INPUT: true; the input reads as it did. -/
def fnExactWideGcdSpec : ChangeSpec := { name := "fnExactWideGcd", fn := fun _ => fun
  | [d1, d2] => { results := [.lit (.bool true)], args := [d1, d2] }
  | _ => none }
def fnExactWideGcdRow : OpenClaim := { program := "ytddniklhpkagmaa", sum := "b6aa377927d365729502b16cbc6fecd3d0a5cbd535639f796ad235f097e4832e", func := "loop.example/g00225/laws.FnExactWideGcd", spec := "fnExactWideGcd", inPlace := ["math/bits.Sub64", "math/bits.Add64"], named := ["math/bits.divideError", "math/bits.overflowError"], apart := false }
def FnExactWideGcdSaid : Prop := fnExactWideGcdRow.holds Try.pinned (OpenSpec.ofChange fnExactWideGcdSpec)

/-- ITS FALSE NEIGHBOUR: 'it returns false'. Refute it at one input. -/
def fnExactWideGcdWrong : ChangeSpec := { name := "fnExactWideGcd", fn := fun _ => fun
  | [d1, d2] => { results := [.lit (.bool false)], args := [d1, d2] }
  | _ => none }
def FnExactWideGcdWrongFalsely : Prop := fnExactWideGcdRow.holds Try.pinned (OpenSpec.ofChange fnExactWideGcdWrong)

/-- 'laws.FnExactWideText': WHATEVER THE INPUT: true; the input reads as it did. -/
def fnExactWideTextSpec : ChangeSpec := { name := "fnExactWideText", fn := fun _ => fun
  | [d] => { results := [.lit (.bool true)], args := [d] }
  | _ => none }
def fnExactWideTextRow : OpenClaim := { program := "ytddniklhpkagmaa", sum := "b6aa377927d365729502b16cbc6fecd3d0a5cbd535639f796ad235f097e4832e", func := "loop.example/g00225/laws.FnExactWideText", spec := "fnExactWideText", inPlace := ["math/bits.Sub64"], named := ["math/bits.divideError", "math/bits.overflowError"], apart := false }
def FnExactWideTextSaid : Prop := fnExactWideTextRow.holds Try.pinned (OpenSpec.ofChange fnExactWideTextSpec)

/-- ITS FALSE NEIGHBOUR: 'it returns false'. Refute it at one input. -/
def fnExactWideTextWrong : ChangeSpec := { name := "fnExactWideText", fn := fun _ => fun
  | [d] => { results := [.lit (.bool false)], args := [d] }
  | _ => none }
def FnExactWideTextWrongFalsely : Prop := fnExactWideTextRow.holds Try.pinned (OpenSpec.ofChange fnExactWideTextWrong)

/-- 'laws.FnExactReadWide': WHATEVER THE INPUT: true; the input reads as it did. -/
def fnExactReadWideSpec : ChangeSpec := { name := "fnExactReadWide", fn := fun _ => fun
  | [d] => { results := [.lit (.bool true)], args := [d] }
  | _ => none }
def fnExactReadWideRow : OpenClaim := { program := "ytddniklhpkagmaa", sum := "b6aa377927d365729502b16cbc6fecd3d0a5cbd535639f796ad235f097e4832e", func := "loop.example/g00225/laws.FnExactReadWide", spec := "fnExactReadWide", inPlace := ["math/bits.Add64", "math/bits.Sub64"], apart := false }
def FnExactReadWideSaid : Prop := fnExactReadWideRow.holds Try.pinned (OpenSpec.ofChange fnExactReadWideSpec)

/-- ITS FALSE NEIGHBOUR: 'it returns false'. Refute it at one input. -/
def fnExactReadWideWrong : ChangeSpec := { name := "fnExactReadWide", fn := fun _ => fun
  | [d] => { results := [.lit (.bool false)], args := [d] }
  | _ => none }
def FnExactReadWideWrongFalsely : Prop := fnExactReadWideRow.holds Try.pinned (OpenSpec.ofChange fnExactReadWideWrong)

/-- 'laws.FnExactRatioOk': WHATEVER THE INPUT: true; the input reads as it did. -/
def fnExactRatioOkSpec : ChangeSpec := { name := "fnExactRatioOk", fn := fun _ => fun
  | [d] => { results := [.lit (.bool true)], args := [d] }
  | _ => none }
def fnExactRatioOkRow : OpenClaim := { program := "ytddniklhpkagmaa", sum := "b6aa377927d365729502b16cbc6fecd3d0a5cbd535639f796ad235f097e4832e", func := "loop.example/g00225/laws.FnExactRatioOk", spec := "fnExactRatioOk", inPlace := ["math/bits.Sub64", "math/bits.Add64"], named := ["math/bits.divideError", "math/bits.overflowError"], apart := false }
def FnExactRatioOkSaid : Prop := fnExactRatioOkRow.holds Try.pinned (OpenSpec.ofChange fnExactRatioOkSpec)

/-- ITS FALSE NEIGHBOUR: 'it returns false'. Refute it at one input. -/
def fnExactRatioOkWrong : ChangeSpec := { name := "fnExactRatioOk", fn := fun _ => fun
  | [d] => { results := [.lit (.bool false)], args := [d] }
  | _ => none }
def FnExactRatioOkWrongFalsely : Prop := fnExactRatioOkRow.holds Try.pinned (OpenSpec.ofChange fnExactRatioOkWrong)

/-- 'laws.FnExactRatioOf': WHATEVER THE INPUT: true; the input reads as it did. -/
def fnExactRatioOfSpec : ChangeSpec := { name := "fnExactRatioOf", fn := fun _ => fun
  | [d1, d2] => { results := [.lit (.bool true)], args := [d1, d2] }
  | _ => none }
def fnExactRatioOfRow : OpenClaim := { program := "ytddniklhpkagmaa", sum := "b6aa377927d365729502b16cbc6fecd3d0a5cbd535639f796ad235f097e4832e", func := "loop.example/g00225/laws.FnExactRatioOf", spec := "fnExactRatioOf", inPlace := ["math/bits.Sub64", "math/bits.Add64"], named := ["math/bits.divideError", "math/bits.overflowError"], apart := false }
def FnExactRatioOfSaid : Prop := fnExactRatioOfRow.holds Try.pinned (OpenSpec.ofChange fnExactRatioOfSpec)

/-- ITS FALSE NEIGHBOUR: 'it returns false'. Refute it at one input. -/
def fnExactRatioOfWrong : ChangeSpec := { name := "fnExactRatioOf", fn := fun _ => fun
  | [d1, d2] => { results := [.lit (.bool false)], args := [d1, d2] }
  | _ => none }
def FnExactRatioOfWrongFalsely : Prop := fnExactRatioOfRow.holds Try.pinned (OpenSpec.ofChange fnExactRatioOfWrong)

/-- 'laws.FnExactRatioAdd': WHATEVER THE INPUT: true; the input reads as it did. -/
def fnExactRatioAddSpec : ChangeSpec := { name := "fnExactRatioAdd", fn := fun _ => fun
  | [d1, d2] => { results := [.lit (.bool true)], args := [d1, d2] }
  | _ => none }
def fnExactRatioAddRow : OpenClaim := { program := "ytddniklhpkagmaa", sum := "b6aa377927d365729502b16cbc6fecd3d0a5cbd535639f796ad235f097e4832e", func := "loop.example/g00225/laws.FnExactRatioAdd", spec := "fnExactRatioAdd", inPlace := ["math/bits.Sub64", "math/bits.Add64"], named := ["math/bits.divideError", "math/bits.overflowError"], apart := false }
def FnExactRatioAddSaid : Prop := fnExactRatioAddRow.holds Try.pinned (OpenSpec.ofChange fnExactRatioAddSpec)

/-- ITS FALSE NEIGHBOUR: 'it returns false'. Refute it at one input. -/
def fnExactRatioAddWrong : ChangeSpec := { name := "fnExactRatioAdd", fn := fun _ => fun
  | [d1, d2] => { results := [.lit (.bool false)], args := [d1, d2] }
  | _ => none }
def FnExactRatioAddWrongFalsely : Prop := fnExactRatioAddRow.holds Try.pinned (OpenSpec.ofChange fnExactRatioAddWrong)

/-- 'laws.FnExactRatioMul': WHATEVER THE INPUT: true; the input reads as it did. -/
def fnExactRatioMulSpec : ChangeSpec := { name := "fnExactRatioMul", fn := fun _ => fun
  | [d1, d2] => { results := [.lit (.bool true)], args := [d1, d2] }
  | _ => none }
def fnExactRatioMulRow : OpenClaim := { program := "ytddniklhpkagmaa", sum := "b6aa377927d365729502b16cbc6fecd3d0a5cbd535639f796ad235f097e4832e", func := "loop.example/g00225/laws.FnExactRatioMul", spec := "fnExactRatioMul", inPlace := ["math/bits.Sub64", "math/bits.Add64"], named := ["math/bits.divideError", "math/bits.overflowError"], apart := false }
def FnExactRatioMulSaid : Prop := fnExactRatioMulRow.holds Try.pinned (OpenSpec.ofChange fnExactRatioMulSpec)

/-- ITS FALSE NEIGHBOUR: 'it returns false'. Refute it at one input. -/
def fnExactRatioMulWrong : ChangeSpec := { name := "fnExactRatioMul", fn := fun _ => fun
  | [d1, d2] => { results := [.lit (.bool false)], args := [d1, d2] }
  | _ => none }
def FnExactRatioMulWrongFalsely : Prop := fnExactRatioMulRow.holds Try.pinned (OpenSpec.ofChange fnExactRatioMulWrong)

/-- 'laws.FnExactRatioDiv': WHATEVER THE INPUT: true; the input reads as it did. -/
def fnExactRatioDivSpec : ChangeSpec := { name := "fnExactRatioDiv", fn := fun _ => fun
  | [d1, d2] => { results := [.lit (.bool true)], args := [d1, d2] }
  | _ => none }
def fnExactRatioDivRow : OpenClaim := { program := "ytddniklhpkagmaa", sum := "b6aa377927d365729502b16cbc6fecd3d0a5cbd535639f796ad235f097e4832e", func := "loop.example/g00225/laws.FnExactRatioDiv", spec := "fnExactRatioDiv", inPlace := ["math/bits.Sub64", "math/bits.Add64"], named := ["math/bits.divideError", "math/bits.overflowError"], apart := false }
def FnExactRatioDivSaid : Prop := fnExactRatioDivRow.holds Try.pinned (OpenSpec.ofChange fnExactRatioDivSpec)

/-- ITS FALSE NEIGHBOUR: 'it returns false'. Refute it at one input. -/
def fnExactRatioDivWrong : ChangeSpec := { name := "fnExactRatioDiv", fn := fun _ => fun
  | [d1, d2] => { results := [.lit (.bool false)], args := [d1, d2] }
  | _ => none }
def FnExactRatioDivWrongFalsely : Prop := fnExactRatioDivRow.holds Try.pinned (OpenSpec.ofChange fnExactRatioDivWrong)

/-- 'laws.FnExactRatioCmp': WHATEVER THE INPUT: true; the input reads as it did. -/
def fnExactRatioCmpSpec : ChangeSpec := { name := "fnExactRatioCmp", fn := fun _ => fun
  | [d1, d2] => { results := [.lit (.bool true)], args := [d1, d2] }
  | _ => none }
def fnExactRatioCmpRow : OpenClaim := { program := "ytddniklhpkagmaa", sum := "b6aa377927d365729502b16cbc6fecd3d0a5cbd535639f796ad235f097e4832e", func := "loop.example/g00225/laws.FnExactRatioCmp", spec := "fnExactRatioCmp", inPlace := ["math/bits.Sub64", "math/bits.Add64"], named := ["math/bits.divideError", "math/bits.overflowError"], apart := false }
def FnExactRatioCmpSaid : Prop := fnExactRatioCmpRow.holds Try.pinned (OpenSpec.ofChange fnExactRatioCmpSpec)

/-- ITS FALSE NEIGHBOUR: 'it returns false'. Refute it at one input. -/
def fnExactRatioCmpWrong : ChangeSpec := { name := "fnExactRatioCmp", fn := fun _ => fun
  | [d1, d2] => { results := [.lit (.bool false)], args := [d1, d2] }
  | _ => none }
def FnExactRatioCmpWrongFalsely : Prop := fnExactRatioCmpRow.holds Try.pinned (OpenSpec.ofChange fnExactRatioCmpWrong)

/-- 'laws.FnExactRatioFloor': WHATEVER THE INPUT: true; the input reads as it did. -/
def fnExactRatioFloorSpec : ChangeSpec := { name := "fnExactRatioFloor", fn := fun _ => fun
  | [d] => { results := [.lit (.bool true)], args := [d] }
  | _ => none }
def fnExactRatioFloorRow : OpenClaim := { program := "ytddniklhpkagmaa", sum := "b6aa377927d365729502b16cbc6fecd3d0a5cbd535639f796ad235f097e4832e", func := "loop.example/g00225/laws.FnExactRatioFloor", spec := "fnExactRatioFloor", inPlace := ["math/bits.Sub64", "math/bits.Add64"], named := ["math/bits.divideError", "math/bits.overflowError"], apart := false }
def FnExactRatioFloorSaid : Prop := fnExactRatioFloorRow.holds Try.pinned (OpenSpec.ofChange fnExactRatioFloorSpec)

/-- ITS FALSE NEIGHBOUR: 'it returns false'. Refute it at one input. -/
def fnExactRatioFloorWrong : ChangeSpec := { name := "fnExactRatioFloor", fn := fun _ => fun
  | [d] => { results := [.lit (.bool false)], args := [d] }
  | _ => none }
def FnExactRatioFloorWrongFalsely : Prop := fnExactRatioFloorRow.holds Try.pinned (OpenSpec.ofChange fnExactRatioFloorWrong)

/-- 'laws.FnExactRatioText': WHATEVER THE INPUT: true; the input reads as it did. -/
def fnExactRatioTextSpec : ChangeSpec := { name := "fnExactRatioText", fn := fun _ => fun
  | [d] => { results := [.lit (.bool true)], args := [d] }
  | _ => none }
def fnExactRatioTextRow : OpenClaim := { program := "ytddniklhpkagmaa", sum := "b6aa377927d365729502b16cbc6fecd3d0a5cbd535639f796ad235f097e4832e", func := "loop.example/g00225/laws.FnExactRatioText", spec := "fnExactRatioText", inPlace := ["math/bits.Sub64", "math/bits.Add64"], named := ["math/bits.divideError", "math/bits.overflowError"], apart := false }
def FnExactRatioTextSaid : Prop := fnExactRatioTextRow.holds Try.pinned (OpenSpec.ofChange fnExactRatioTextSpec)

/-- ITS FALSE NEIGHBOUR: 'it returns false'. Refute it at one input. -/
def fnExactRatioTextWrong : ChangeSpec := { name := "fnExactRatioText", fn := fun _ => fun
  | [d] => { results := [.lit (.bool false)], args := [d] }
  | _ => none }
def FnExactRatioTextWrongFalsely : Prop := fnExactRatioTextRow.holds Try.pinned (OpenSpec.ofChange fnExactRatioTextWrong)

/-- 'laws.FnExactReadRatio': WHATEVER THE INPUT: true; the input reads as it did. -/
def fnExactReadRatioSpec : ChangeSpec := { name := "fnExactReadRatio", fn := fun _ => fun
  | [d] => { results := [.lit (.bool true)], args := [d] }
  | _ => none }
def fnExactReadRatioRow : OpenClaim := { program := "ytddniklhpkagmaa", sum := "b6aa377927d365729502b16cbc6fecd3d0a5cbd535639f796ad235f097e4832e", func := "loop.example/g00225/laws.FnExactReadRatio", spec := "fnExactReadRatio", inPlace := ["internal/bytealg.IndexByteString", "internal/bytealg.IndexString", "math/bits.Add64", "math/bits.Sub64"], named := ["internal/bytealg.MaxLen", "math/bits.divideError", "math/bits.overflowError"], apart := false }
def FnExactReadRatioSaid : Prop := fnExactReadRatioRow.holds Try.pinned (OpenSpec.ofChange fnExactReadRatioSpec)

/-- ITS FALSE NEIGHBOUR: 'it returns false'. Refute it at one input. -/
def fnExactReadRatioWrong : ChangeSpec := { name := "fnExactReadRatio", fn := fun _ => fun
  | [d] => { results := [.lit (.bool false)], args := [d] }
  | _ => none }
def FnExactReadRatioWrongFalsely : Prop := fnExactReadRatioRow.holds Try.pinned (OpenSpec.ofChange fnExactReadRatioWrong)

/- THE SECOND FORM. 'bulk': how many values and letters a reading holds, each counted each time it is reached (what is shared counts as often as it is met; a slice's spare places count too). A statement '..UptoSaid' is the law's where the arguments, and the package variables that the reading takes, are together of bulk at most 1048576: NARROWER than '..Said'. Prove '..Said' where nothing that the law and all that it calls make is longer than what came in: it says more and counts as full. Else prove '..UptoSaid'. A law counts once. -/
mutual
def uptoBulk {H : Type} : DataW H → Nat
  | .lit (.string bytes) => bytes.length + 1
  | .lit _ => 1
  | .nil => 1
  | .ptr d => uptoBulk d + 1
  | .slice elems spare => uptoBulkAll elems + uptoBulkAll spare + 1
  | .agg parts => uptoBulkAll parts + 1
  | .iface _ d => uptoBulk d + 1
  | .map entries => uptoBulkEntries entries + 1
  | .held _ => 1
def uptoBulkAll {H : Type} : List (DataW H) → Nat
  | [] => 0
  | d :: r => uptoBulk d + uptoBulkAll r
def uptoBulkEntries {H : Type} : List (Lit × DataW H) → Nat
  | [] => 0
  | x :: r => uptoBulkEntry x + uptoBulkEntries r
def uptoBulkEntry {H : Type} : Lit × DataW H → Nat
  | (.string bytes, d) => bytes.length + uptoBulk d + 1
  | (_, d) => uptoBulk d + 1
 end
def uptoSmall : (H : Type) → List (DataW H) → Bool := fun _ ds => decide (uptoBulkAll ds ≤ 1048576)
def OpenSpec.upto (s : _root_.Go.ChangeSpec) : _root_.Go.OpenSpec := { _root_.Go.OpenSpec.ofChange s with cond := some uptoSmall }

/-- 'laws.FnExactWideMul', WHERE WHAT IT READS IS OF BULK AT MOST 1048576: true; the input reads as it did. -/
def fnExactWideMulUptoRow : OpenClaim := { program := "ytddniklhpkagmaa", sum := "b6aa377927d365729502b16cbc6fecd3d0a5cbd535639f796ad235f097e4832e", func := "loop.example/g00225/laws.FnExactWideMul", spec := "fnExactWideMul", inPlace := ["math/bits.Sub64", "math/bits.Add64"], apart := false, narrowed := true }
def FnExactWideMulUptoSaid : Prop := fnExactWideMulUptoRow.holds Try.pinned (OpenSpec.upto fnExactWideMulSpec)

/-- 'laws.FnExactWideDiv', WHERE WHAT IT READS IS OF BULK AT MOST 1048576: true; the input reads as it did. -/
def fnExactWideDivUptoRow : OpenClaim := { program := "ytddniklhpkagmaa", sum := "b6aa377927d365729502b16cbc6fecd3d0a5cbd535639f796ad235f097e4832e", func := "loop.example/g00225/laws.FnExactWideDiv", spec := "fnExactWideDiv", inPlace := ["math/bits.Sub64", "math/bits.Add64"], named := ["math/bits.divideError", "math/bits.overflowError"], apart := false, narrowed := true }
def FnExactWideDivUptoSaid : Prop := fnExactWideDivUptoRow.holds Try.pinned (OpenSpec.upto fnExactWideDivSpec)

/-- 'laws.FnExactWideGcd', WHERE WHAT IT READS IS OF BULK AT MOST 1048576: true; the input reads as it did. -/
def fnExactWideGcdUptoRow : OpenClaim := { program := "ytddniklhpkagmaa", sum := "b6aa377927d365729502b16cbc6fecd3d0a5cbd535639f796ad235f097e4832e", func := "loop.example/g00225/laws.FnExactWideGcd", spec := "fnExactWideGcd", inPlace := ["math/bits.Sub64", "math/bits.Add64"], named := ["math/bits.divideError", "math/bits.overflowError"], apart := false, narrowed := true }
def FnExactWideGcdUptoSaid : Prop := fnExactWideGcdUptoRow.holds Try.pinned (OpenSpec.upto fnExactWideGcdSpec)

/-- 'laws.FnExactWideText', WHERE WHAT IT READS IS OF BULK AT MOST 1048576: true; the input reads as it did. -/
def fnExactWideTextUptoRow : OpenClaim := { program := "ytddniklhpkagmaa", sum := "b6aa377927d365729502b16cbc6fecd3d0a5cbd535639f796ad235f097e4832e", func := "loop.example/g00225/laws.FnExactWideText", spec := "fnExactWideText", inPlace := ["math/bits.Sub64"], named := ["math/bits.divideError", "math/bits.overflowError"], apart := false, narrowed := true }
def FnExactWideTextUptoSaid : Prop := fnExactWideTextUptoRow.holds Try.pinned (OpenSpec.upto fnExactWideTextSpec)

/-- 'laws.FnExactReadWide', WHERE WHAT IT READS IS OF BULK AT MOST 1048576: true; the input reads as it did. -/
def fnExactReadWideUptoRow : OpenClaim := { program := "ytddniklhpkagmaa", sum := "b6aa377927d365729502b16cbc6fecd3d0a5cbd535639f796ad235f097e4832e", func := "loop.example/g00225/laws.FnExactReadWide", spec := "fnExactReadWide", inPlace := ["math/bits.Add64", "math/bits.Sub64"], apart := false, narrowed := true }
def FnExactReadWideUptoSaid : Prop := fnExactReadWideUptoRow.holds Try.pinned (OpenSpec.upto fnExactReadWideSpec)

/-- 'laws.FnExactRatioOk', WHERE WHAT IT READS IS OF BULK AT MOST 1048576: true; the input reads as it did. -/
def fnExactRatioOkUptoRow : OpenClaim := { program := "ytddniklhpkagmaa", sum := "b6aa377927d365729502b16cbc6fecd3d0a5cbd535639f796ad235f097e4832e", func := "loop.example/g00225/laws.FnExactRatioOk", spec := "fnExactRatioOk", inPlace := ["math/bits.Sub64", "math/bits.Add64"], named := ["math/bits.divideError", "math/bits.overflowError"], apart := false, narrowed := true }
def FnExactRatioOkUptoSaid : Prop := fnExactRatioOkUptoRow.holds Try.pinned (OpenSpec.upto fnExactRatioOkSpec)

/-- 'laws.FnExactRatioOf', WHERE WHAT IT READS IS OF BULK AT MOST 1048576: true; the input reads as it did. -/
def fnExactRatioOfUptoRow : OpenClaim := { program := "ytddniklhpkagmaa", sum := "b6aa377927d365729502b16cbc6fecd3d0a5cbd535639f796ad235f097e4832e", func := "loop.example/g00225/laws.FnExactRatioOf", spec := "fnExactRatioOf", inPlace := ["math/bits.Sub64", "math/bits.Add64"], named := ["math/bits.divideError", "math/bits.overflowError"], apart := false, narrowed := true }
def FnExactRatioOfUptoSaid : Prop := fnExactRatioOfUptoRow.holds Try.pinned (OpenSpec.upto fnExactRatioOfSpec)

/-- 'laws.FnExactRatioAdd', WHERE WHAT IT READS IS OF BULK AT MOST 1048576: true; the input reads as it did. -/
def fnExactRatioAddUptoRow : OpenClaim := { program := "ytddniklhpkagmaa", sum := "b6aa377927d365729502b16cbc6fecd3d0a5cbd535639f796ad235f097e4832e", func := "loop.example/g00225/laws.FnExactRatioAdd", spec := "fnExactRatioAdd", inPlace := ["math/bits.Sub64", "math/bits.Add64"], named := ["math/bits.divideError", "math/bits.overflowError"], apart := false, narrowed := true }
def FnExactRatioAddUptoSaid : Prop := fnExactRatioAddUptoRow.holds Try.pinned (OpenSpec.upto fnExactRatioAddSpec)

/-- 'laws.FnExactRatioMul', WHERE WHAT IT READS IS OF BULK AT MOST 1048576: true; the input reads as it did. -/
def fnExactRatioMulUptoRow : OpenClaim := { program := "ytddniklhpkagmaa", sum := "b6aa377927d365729502b16cbc6fecd3d0a5cbd535639f796ad235f097e4832e", func := "loop.example/g00225/laws.FnExactRatioMul", spec := "fnExactRatioMul", inPlace := ["math/bits.Sub64", "math/bits.Add64"], named := ["math/bits.divideError", "math/bits.overflowError"], apart := false, narrowed := true }
def FnExactRatioMulUptoSaid : Prop := fnExactRatioMulUptoRow.holds Try.pinned (OpenSpec.upto fnExactRatioMulSpec)

/-- 'laws.FnExactRatioDiv', WHERE WHAT IT READS IS OF BULK AT MOST 1048576: true; the input reads as it did. -/
def fnExactRatioDivUptoRow : OpenClaim := { program := "ytddniklhpkagmaa", sum := "b6aa377927d365729502b16cbc6fecd3d0a5cbd535639f796ad235f097e4832e", func := "loop.example/g00225/laws.FnExactRatioDiv", spec := "fnExactRatioDiv", inPlace := ["math/bits.Sub64", "math/bits.Add64"], named := ["math/bits.divideError", "math/bits.overflowError"], apart := false, narrowed := true }
def FnExactRatioDivUptoSaid : Prop := fnExactRatioDivUptoRow.holds Try.pinned (OpenSpec.upto fnExactRatioDivSpec)

/-- 'laws.FnExactRatioCmp', WHERE WHAT IT READS IS OF BULK AT MOST 1048576: true; the input reads as it did. -/
def fnExactRatioCmpUptoRow : OpenClaim := { program := "ytddniklhpkagmaa", sum := "b6aa377927d365729502b16cbc6fecd3d0a5cbd535639f796ad235f097e4832e", func := "loop.example/g00225/laws.FnExactRatioCmp", spec := "fnExactRatioCmp", inPlace := ["math/bits.Sub64", "math/bits.Add64"], named := ["math/bits.divideError", "math/bits.overflowError"], apart := false, narrowed := true }
def FnExactRatioCmpUptoSaid : Prop := fnExactRatioCmpUptoRow.holds Try.pinned (OpenSpec.upto fnExactRatioCmpSpec)

/-- 'laws.FnExactRatioFloor', WHERE WHAT IT READS IS OF BULK AT MOST 1048576: true; the input reads as it did. -/
def fnExactRatioFloorUptoRow : OpenClaim := { program := "ytddniklhpkagmaa", sum := "b6aa377927d365729502b16cbc6fecd3d0a5cbd535639f796ad235f097e4832e", func := "loop.example/g00225/laws.FnExactRatioFloor", spec := "fnExactRatioFloor", inPlace := ["math/bits.Sub64", "math/bits.Add64"], named := ["math/bits.divideError", "math/bits.overflowError"], apart := false, narrowed := true }
def FnExactRatioFloorUptoSaid : Prop := fnExactRatioFloorUptoRow.holds Try.pinned (OpenSpec.upto fnExactRatioFloorSpec)

/-- 'laws.FnExactRatioText', WHERE WHAT IT READS IS OF BULK AT MOST 1048576: true; the input reads as it did. -/
def fnExactRatioTextUptoRow : OpenClaim := { program := "ytddniklhpkagmaa", sum := "b6aa377927d365729502b16cbc6fecd3d0a5cbd535639f796ad235f097e4832e", func := "loop.example/g00225/laws.FnExactRatioText", spec := "fnExactRatioText", inPlace := ["math/bits.Sub64", "math/bits.Add64"], named := ["math/bits.divideError", "math/bits.overflowError"], apart := false, narrowed := true }
def FnExactRatioTextUptoSaid : Prop := fnExactRatioTextUptoRow.holds Try.pinned (OpenSpec.upto fnExactRatioTextSpec)

/-- 'laws.FnExactReadRatio', WHERE WHAT IT READS IS OF BULK AT MOST 1048576: true; the input reads as it did. -/
def fnExactReadRatioUptoRow : OpenClaim := { program := "ytddniklhpkagmaa", sum := "b6aa377927d365729502b16cbc6fecd3d0a5cbd535639f796ad235f097e4832e", func := "loop.example/g00225/laws.FnExactReadRatio", spec := "fnExactReadRatio", inPlace := ["internal/bytealg.IndexByteString", "internal/bytealg.IndexString", "math/bits.Add64", "math/bits.Sub64"], named := ["internal/bytealg.MaxLen", "math/bits.divideError", "math/bits.overflowError"], apart := false, narrowed := true }
def FnExactReadRatioUptoSaid : Prop := fnExactReadRatioUptoRow.holds Try.pinned (OpenSpec.upto fnExactReadRatioSpec)

end Rows
end Go.Proofs.Ytddniklhpkagmaa
