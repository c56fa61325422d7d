/-
  No cell of these rows narrows 'for every input' (looked for: loops, veiled, ifaces, maps, wideKeys, modest, calm, conditions, laid).
  DERIVED. THE GIVEN ROWS OF THIS SEAT. 9 by the template 'for every input the law returns true; each argument reads behind the call as it read before'; 0 by the template 'total and deterministic' (their statements: YtnnojeggjnddpaaTotals.lean).
  GIVEN WITH THE SEED: the statements are not yours to turn. If you find one false, say at which input.
  Laid BY PROGRAM, IN A SANDBOX (cutbox-rows.mjs): the forced cells as the released guide's own fill.sh prints them over the translation 2864b2bf1b27eb3e… (all of the seat's roots in one cut). By AI agents, Wed Nov 11 2026. No macro, syntax, notation, axiom, sorry.
-/
import Derived.Test.YtnnojeggjnddpaaChecked
import GoSem.Claim
import GoSem.ClaimJoined
import GoSem.ClaimMapViews
import Derived.JoinedTies
import Derived.KernelRfl
namespace Go.Proofs.Ytnnojeggjnddpaa
/- THE CELL 'sum', in the pinned program and in every row, IS THE sha256 OF THE DUMP (.gsa) THAT YtnnojeggjnddpaaProg.lean LOADS. Nothing in Lean hashes anything: it is a label: what it is worth is what the hold of that sum in a sandbox is worth. -/
noncomputable def Try.pinned : Pinned := { name := "ytnnojeggjnddpaa", sum := "2864b2bf1b27eb3e63ec554daab547c801ccf057f66719a6edebaab812bf615e", checked := Try.checked }
namespace Rows
def none {H : Type} : Left H := { results := [], args := [] }

/-- 'laws.FnExactWideText': WHATEVER THE INPUT: true; the input reads as it did. -/
def fnExactWideTextSpec : ChangeSpec := { name := "fnExactWideText", fn := fun _ => fun
  | [d] => { results := [.lit (.bool true)], args := [d] }
  | _ => none }
def fnExactWideTextRow : OpenClaim := { program := "ytnnojeggjnddpaa", sum := "2864b2bf1b27eb3e63ec554daab547c801ccf057f66719a6edebaab812bf615e", func := "loop.example/g00225/laws.FnExactWideText", spec := "fnExactWideText", inPlace := ["math/bits.Sub64"], named := ["math/bits.divideError", "math/bits.overflowError"], apart := false }
def FnExactWideTextSaid : Prop := fnExactWideTextRow.holds Try.pinned (OpenSpec.ofChange fnExactWideTextSpec)

/-- ITS FALSE NEIGHBOUR: 'it returns false'. Refute it at one input. -/
def fnExactWideTextWrong : ChangeSpec := { name := "fnExactWideText", fn := fun _ => fun
  | [d] => { results := [.lit (.bool false)], args := [d] }
  | _ => none }
def FnExactWideTextWrongFalsely : Prop := fnExactWideTextRow.holds Try.pinned (OpenSpec.ofChange fnExactWideTextWrong)

/-- 'laws.FnExactReadWide': WHATEVER THE INPUT: true; the input reads as it did. -/
def fnExactReadWideSpec : ChangeSpec := { name := "fnExactReadWide", fn := fun _ => fun
  | [d] => { results := [.lit (.bool true)], args := [d] }
  | _ => none }
def fnExactReadWideRow : OpenClaim := { program := "ytnnojeggjnddpaa", sum := "2864b2bf1b27eb3e63ec554daab547c801ccf057f66719a6edebaab812bf615e", func := "loop.example/g00225/laws.FnExactReadWide", spec := "fnExactReadWide", inPlace := ["math/bits.Add64", "math/bits.Sub64"], apart := false }
def FnExactReadWideSaid : Prop := fnExactReadWideRow.holds Try.pinned (OpenSpec.ofChange fnExactReadWideSpec)

/-- ITS FALSE NEIGHBOUR: 'it returns false'. Refute it at one input. -/
def fnExactReadWideWrong : ChangeSpec := { name := "fnExactReadWide", fn := fun _ => fun
  | [d] => { results := [.lit (.bool false)], args := [d] }
  | _ => none }
def FnExactReadWideWrongFalsely : Prop := fnExactReadWideRow.holds Try.pinned (OpenSpec.ofChange fnExactReadWideWrong)

/-- 'laws.FnExactRatioText': WHATEVER THE INPUT: true; the input reads as it did. -/
def fnExactRatioTextSpec : ChangeSpec := { name := "fnExactRatioText", fn := fun _ => fun
  | [d] => { results := [.lit (.bool true)], args := [d] }
  | _ => none }
def fnExactRatioTextRow : OpenClaim := { program := "ytnnojeggjnddpaa", sum := "2864b2bf1b27eb3e63ec554daab547c801ccf057f66719a6edebaab812bf615e", func := "loop.example/g00225/laws.FnExactRatioText", spec := "fnExactRatioText", inPlace := ["math/bits.Sub64", "math/bits.Add64"], named := ["math/bits.divideError", "math/bits.overflowError"], apart := false }
def FnExactRatioTextSaid : Prop := fnExactRatioTextRow.holds Try.pinned (OpenSpec.ofChange fnExactRatioTextSpec)

/-- ITS FALSE NEIGHBOUR: 'it returns false'. Refute it at one input. -/
def fnExactRatioTextWrong : ChangeSpec := { name := "fnExactRatioText", fn := fun _ => fun
  | [d] => { results := [.lit (.bool false)], args := [d] }
  | _ => none }
def FnExactRatioTextWrongFalsely : Prop := fnExactRatioTextRow.holds Try.pinned (OpenSpec.ofChange fnExactRatioTextWrong)

/-- 'laws.FnExactReadRatio': WHATEVER THE INPUT: true; the input reads as it did. -/
def fnExactReadRatioSpec : ChangeSpec := { name := "fnExactReadRatio", fn := fun _ => fun
  | [d] => { results := [.lit (.bool true)], args := [d] }
  | _ => none }
def fnExactReadRatioRow : OpenClaim := { program := "ytnnojeggjnddpaa", sum := "2864b2bf1b27eb3e63ec554daab547c801ccf057f66719a6edebaab812bf615e", func := "loop.example/g00225/laws.FnExactReadRatio", spec := "fnExactReadRatio", inPlace := ["internal/bytealg.IndexByteString", "internal/bytealg.IndexString", "math/bits.Add64", "math/bits.Sub64"], named := ["internal/bytealg.MaxLen", "math/bits.divideError", "math/bits.overflowError"], apart := false }
def FnExactReadRatioSaid : Prop := fnExactReadRatioRow.holds Try.pinned (OpenSpec.ofChange fnExactReadRatioSpec)

/-- ITS FALSE NEIGHBOUR: 'it returns false'. Refute it at one input. -/
def fnExactReadRatioWrong : ChangeSpec := { name := "fnExactReadRatio", fn := fun _ => fun
  | [d] => { results := [.lit (.bool false)], args := [d] }
  | _ => none }
def FnExactReadRatioWrongFalsely : Prop := fnExactReadRatioRow.holds Try.pinned (OpenSpec.ofChange fnExactReadRatioWrong)

/-- 'laws.FnExactPointText': WHATEVER THE INPUT: true; the input reads as it did. -/
def fnExactPointTextSpec : ChangeSpec := { name := "fnExactPointText", fn := fun _ => fun
  | [d] => { results := [.lit (.bool true)], args := [d] }
  | _ => none }
def fnExactPointTextRow : OpenClaim := { program := "ytnnojeggjnddpaa", sum := "2864b2bf1b27eb3e63ec554daab547c801ccf057f66719a6edebaab812bf615e", func := "loop.example/g00225/laws.FnExactPointText", spec := "fnExactPointText", inPlace := ["math/bits.Sub64", "math/bits.Add64"], named := ["math/bits.divideError", "math/bits.overflowError"], apart := false }
def FnExactPointTextSaid : Prop := fnExactPointTextRow.holds Try.pinned (OpenSpec.ofChange fnExactPointTextSpec)

/-- ITS FALSE NEIGHBOUR: 'it returns false'. Refute it at one input. -/
def fnExactPointTextWrong : ChangeSpec := { name := "fnExactPointText", fn := fun _ => fun
  | [d] => { results := [.lit (.bool false)], args := [d] }
  | _ => none }
def FnExactPointTextWrongFalsely : Prop := fnExactPointTextRow.holds Try.pinned (OpenSpec.ofChange fnExactPointTextWrong)

/-- 'laws.FnExactReadPoint': WHATEVER THE INPUT: true; the input reads as it did. -/
def fnExactReadPointSpec : ChangeSpec := { name := "fnExactReadPoint", fn := fun _ => fun
  | [d] => { results := [.lit (.bool true)], args := [d] }
  | _ => none }
def fnExactReadPointRow : OpenClaim := { program := "ytnnojeggjnddpaa", sum := "2864b2bf1b27eb3e63ec554daab547c801ccf057f66719a6edebaab812bf615e", func := "loop.example/g00225/laws.FnExactReadPoint", spec := "fnExactReadPoint", inPlace := ["internal/bytealg.IndexByteString", "internal/bytealg.IndexString", "math/bits.Add64", "math/bits.Sub64"], named := ["internal/bytealg.MaxLen", "math/bits.divideError", "math/bits.overflowError"], apart := false }
def FnExactReadPointSaid : Prop := fnExactReadPointRow.holds Try.pinned (OpenSpec.ofChange fnExactReadPointSpec)

/-- ITS FALSE NEIGHBOUR: 'it returns false'. Refute it at one input. -/
def fnExactReadPointWrong : ChangeSpec := { name := "fnExactReadPoint", fn := fun _ => fun
  | [d] => { results := [.lit (.bool false)], args := [d] }
  | _ => none }
def FnExactReadPointWrongFalsely : Prop := fnExactReadPointRow.holds Try.pinned (OpenSpec.ofChange fnExactReadPointWrong)

/-- 'laws.FnWideTexts': WHATEVER THE INPUT: true; the input reads as it did. -/
def fnWideTextsSpec : ChangeSpec := { name := "fnWideTexts", fn := fun _ => fun
  | [d] => { results := [.lit (.bool true)], args := [d] }
  | _ => none }
def fnWideTextsRow : OpenClaim := { program := "ytnnojeggjnddpaa", sum := "2864b2bf1b27eb3e63ec554daab547c801ccf057f66719a6edebaab812bf615e", func := "loop.example/g00225/laws.FnWideTexts", spec := "fnWideTexts", inPlace := ["math/bits.Sub64", "math/bits.Add64"], named := ["math/bits.divideError", "math/bits.overflowError"], apart := false }
def FnWideTextsSaid : Prop := fnWideTextsRow.holds Try.pinned (OpenSpec.ofChange fnWideTextsSpec)

/-- ITS FALSE NEIGHBOUR: 'it returns false'. Refute it at one input. -/
def fnWideTextsWrong : ChangeSpec := { name := "fnWideTexts", fn := fun _ => fun
  | [d] => { results := [.lit (.bool false)], args := [d] }
  | _ => none }
def FnWideTextsWrongFalsely : Prop := fnWideTextsRow.holds Try.pinned (OpenSpec.ofChange fnWideTextsWrong)

/-- 'laws.FnRatioTexts': WHATEVER THE INPUT: true; the input reads as it did. -/
def fnRatioTextsSpec : ChangeSpec := { name := "fnRatioTexts", fn := fun _ => fun
  | [d] => { results := [.lit (.bool true)], args := [d] }
  | _ => none }
def fnRatioTextsRow : OpenClaim := { program := "ytnnojeggjnddpaa", sum := "2864b2bf1b27eb3e63ec554daab547c801ccf057f66719a6edebaab812bf615e", func := "loop.example/g00225/laws.FnRatioTexts", spec := "fnRatioTexts", inPlace := ["math/bits.Sub64", "math/bits.Add64", "internal/bytealg.IndexByteString", "internal/bytealg.IndexString"], named := ["math/bits.divideError", "math/bits.overflowError", "internal/bytealg.MaxLen"], apart := false }
def FnRatioTextsSaid : Prop := fnRatioTextsRow.holds Try.pinned (OpenSpec.ofChange fnRatioTextsSpec)

/-- ITS FALSE NEIGHBOUR: 'it returns false'. Refute it at one input. -/
def fnRatioTextsWrong : ChangeSpec := { name := "fnRatioTexts", fn := fun _ => fun
  | [d] => { results := [.lit (.bool false)], args := [d] }
  | _ => none }
def FnRatioTextsWrongFalsely : Prop := fnRatioTextsRow.holds Try.pinned (OpenSpec.ofChange fnRatioTextsWrong)

/-- 'laws.FnPointTexts': WHATEVER THE INPUT: true; the input reads as it did. -/
def fnPointTextsSpec : ChangeSpec := { name := "fnPointTexts", fn := fun _ => fun
  | [d] => { results := [.lit (.bool true)], args := [d] }
  | _ => none }
def fnPointTextsRow : OpenClaim := { program := "ytnnojeggjnddpaa", sum := "2864b2bf1b27eb3e63ec554daab547c801ccf057f66719a6edebaab812bf615e", func := "loop.example/g00225/laws.FnPointTexts", spec := "fnPointTexts", inPlace := ["math/bits.Sub64", "math/bits.Add64", "internal/bytealg.IndexByteString", "internal/bytealg.IndexString"], named := ["math/bits.divideError", "math/bits.overflowError", "internal/bytealg.MaxLen"], apart := false }
def FnPointTextsSaid : Prop := fnPointTextsRow.holds Try.pinned (OpenSpec.ofChange fnPointTextsSpec)

/-- ITS FALSE NEIGHBOUR: 'it returns false'. Refute it at one input. -/
def fnPointTextsWrong : ChangeSpec := { name := "fnPointTexts", fn := fun _ => fun
  | [d] => { results := [.lit (.bool false)], args := [d] }
  | _ => none }
def FnPointTextsWrongFalsely : Prop := fnPointTextsRow.holds Try.pinned (OpenSpec.ofChange fnPointTextsWrong)

/- THE SECOND FORM. 'bulk': how many values and letters a reading holds, each counted each time it is reached (what is shared counts as often as it is met; a slice's spare places count too). A statement '..UptoSaid' is the law's where the arguments, and the package variables that the reading takes, are together of bulk at most 1048576: NARROWER than '..Said'. Prove '..Said' where nothing that the law and all that it calls make is longer than what came in: it says more and counts as full. Else prove '..UptoSaid'. A law counts once. -/
mutual
def uptoBulk {H : Type} : DataW H → Nat
  | .lit (.string bytes) => bytes.length + 1
  | .lit _ => 1
  | .nil => 1
  | .ptr d => uptoBulk d + 1
  | .slice elems spare => uptoBulkAll elems + uptoBulkAll spare + 1
  | .agg parts => uptoBulkAll parts + 1
  | .iface _ d => uptoBulk d + 1
  | .map entries => uptoBulkEntries entries + 1
  | .held _ => 1
def uptoBulkAll {H : Type} : List (DataW H) → Nat
  | [] => 0
  | d :: r => uptoBulk d + uptoBulkAll r
def uptoBulkEntries {H : Type} : List (Lit × DataW H) → Nat
  | [] => 0
  | x :: r => uptoBulkEntry x + uptoBulkEntries r
def uptoBulkEntry {H : Type} : Lit × DataW H → Nat
  | (.string bytes, d) => bytes.length + uptoBulk d + 1
  | (_, d) => uptoBulk d + 1
 end
def uptoSmall : (H : Type) → List (DataW H) → Bool := fun _ ds => decide (uptoBulkAll ds ≤ 1048576)
def OpenSpec.upto (s : _root_.Go.ChangeSpec) : _root_.Go.OpenSpec := { _root_.Go.OpenSpec.ofChange s with cond := some uptoSmall }

/-- 'laws.FnExactWideText', WHERE WHAT IT READS IS OF BULK AT MOST 1048576: true; the input reads as it did. -/
def fnExactWideTextUptoRow : OpenClaim := { program := "ytnnojeggjnddpaa", sum := "2864b2bf1b27eb3e63ec554daab547c801ccf057f66719a6edebaab812bf615e", func := "loop.example/g00225/laws.FnExactWideText", spec := "fnExactWideText", inPlace := ["math/bits.Sub64"], named := ["math/bits.divideError", "math/bits.overflowError"], apart := false, narrowed := true }
def FnExactWideTextUptoSaid : Prop := fnExactWideTextUptoRow.holds Try.pinned (OpenSpec.upto fnExactWideTextSpec)

/-- 'laws.FnExactReadWide', WHERE WHAT IT READS IS OF BULK AT MOST 1048576: true; the input reads as it did. -/
def fnExactReadWideUptoRow : OpenClaim := { program := "ytnnojeggjnddpaa", sum := "2864b2bf1b27eb3e63ec554daab547c801ccf057f66719a6edebaab812bf615e", func := "loop.example/g00225/laws.FnExactReadWide", spec := "fnExactReadWide", inPlace := ["math/bits.Add64", "math/bits.Sub64"], apart := false, narrowed := true }
def FnExactReadWideUptoSaid : Prop := fnExactReadWideUptoRow.holds Try.pinned (OpenSpec.upto fnExactReadWideSpec)

/-- 'laws.FnExactRatioText', WHERE WHAT IT READS IS OF BULK AT MOST 1048576: true; the input reads as it did. -/
def fnExactRatioTextUptoRow : OpenClaim := { program := "ytnnojeggjnddpaa", sum := "2864b2bf1b27eb3e63ec554daab547c801ccf057f66719a6edebaab812bf615e", func := "loop.example/g00225/laws.FnExactRatioText", spec := "fnExactRatioText", inPlace := ["math/bits.Sub64", "math/bits.Add64"], named := ["math/bits.divideError", "math/bits.overflowError"], apart := false, narrowed := true }
def FnExactRatioTextUptoSaid : Prop := fnExactRatioTextUptoRow.holds Try.pinned (OpenSpec.upto fnExactRatioTextSpec)

/-- 'laws.FnExactReadRatio', WHERE WHAT IT READS IS OF BULK AT MOST 1048576: true; the input reads as it did. -/
def fnExactReadRatioUptoRow : OpenClaim := { program := "ytnnojeggjnddpaa", sum := "2864b2bf1b27eb3e63ec554daab547c801ccf057f66719a6edebaab812bf615e", func := "loop.example/g00225/laws.FnExactReadRatio", spec := "fnExactReadRatio", inPlace := ["internal/bytealg.IndexByteString", "internal/bytealg.IndexString", "math/bits.Add64", "math/bits.Sub64"], named := ["internal/bytealg.MaxLen", "math/bits.divideError", "math/bits.overflowError"], apart := false, narrowed := true }
def FnExactReadRatioUptoSaid : Prop := fnExactReadRatioUptoRow.holds Try.pinned (OpenSpec.upto fnExactReadRatioSpec)

/-- 'laws.FnExactPointText', WHERE WHAT IT READS IS OF BULK AT MOST 1048576: true; the input reads as it did. -/
def fnExactPointTextUptoRow : OpenClaim := { program := "ytnnojeggjnddpaa", sum := "2864b2bf1b27eb3e63ec554daab547c801ccf057f66719a6edebaab812bf615e", func := "loop.example/g00225/laws.FnExactPointText", spec := "fnExactPointText", inPlace := ["math/bits.Sub64", "math/bits.Add64"], named := ["math/bits.divideError", "math/bits.overflowError"], apart := false, narrowed := true }
def FnExactPointTextUptoSaid : Prop := fnExactPointTextUptoRow.holds Try.pinned (OpenSpec.upto fnExactPointTextSpec)

/-- 'laws.FnExactReadPoint', WHERE WHAT IT READS IS OF BULK AT MOST 1048576: true; the input reads as it did. -/
def fnExactReadPointUptoRow : OpenClaim := { program := "ytnnojeggjnddpaa", sum := "2864b2bf1b27eb3e63ec554daab547c801ccf057f66719a6edebaab812bf615e", func := "loop.example/g00225/laws.FnExactReadPoint", spec := "fnExactReadPoint", inPlace := ["internal/bytealg.IndexByteString", "internal/bytealg.IndexString", "math/bits.Add64", "math/bits.Sub64"], named := ["internal/bytealg.MaxLen", "math/bits.divideError", "math/bits.overflowError"], apart := false, narrowed := true }
def FnExactReadPointUptoSaid : Prop := fnExactReadPointUptoRow.holds Try.pinned (OpenSpec.upto fnExactReadPointSpec)

/-- 'laws.FnWideTexts', WHERE WHAT IT READS IS OF BULK AT MOST 1048576: true; the input reads as it did. -/
def fnWideTextsUptoRow : OpenClaim := { program := "ytnnojeggjnddpaa", sum := "2864b2bf1b27eb3e63ec554daab547c801ccf057f66719a6edebaab812bf615e", func := "loop.example/g00225/laws.FnWideTexts", spec := "fnWideTexts", inPlace := ["math/bits.Sub64", "math/bits.Add64"], named := ["math/bits.divideError", "math/bits.overflowError"], apart := false, narrowed := true }
def FnWideTextsUptoSaid : Prop := fnWideTextsUptoRow.holds Try.pinned (OpenSpec.upto fnWideTextsSpec)

/-- 'laws.FnRatioTexts', WHERE WHAT IT READS IS OF BULK AT MOST 1048576: true; the input reads as it did. -/
def fnRatioTextsUptoRow : OpenClaim := { program := "ytnnojeggjnddpaa", sum := "2864b2bf1b27eb3e63ec554daab547c801ccf057f66719a6edebaab812bf615e", func := "loop.example/g00225/laws.FnRatioTexts", spec := "fnRatioTexts", inPlace := ["math/bits.Sub64", "math/bits.Add64", "internal/bytealg.IndexByteString", "internal/bytealg.IndexString"], named := ["math/bits.divideError", "math/bits.overflowError", "internal/bytealg.MaxLen"], apart := false, narrowed := true }
def FnRatioTextsUptoSaid : Prop := fnRatioTextsUptoRow.holds Try.pinned (OpenSpec.upto fnRatioTextsSpec)

/-- 'laws.FnPointTexts', WHERE WHAT IT READS IS OF BULK AT MOST 1048576: true; the input reads as it did. -/
def fnPointTextsUptoRow : OpenClaim := { program := "ytnnojeggjnddpaa", sum := "2864b2bf1b27eb3e63ec554daab547c801ccf057f66719a6edebaab812bf615e", func := "loop.example/g00225/laws.FnPointTexts", spec := "fnPointTexts", inPlace := ["math/bits.Sub64", "math/bits.Add64", "internal/bytealg.IndexByteString", "internal/bytealg.IndexString"], named := ["math/bits.divideError", "math/bits.overflowError", "internal/bytealg.MaxLen"], apart := false, narrowed := true }
def FnPointTextsUptoSaid : Prop := fnPointTextsUptoRow.holds Try.pinned (OpenSpec.upto fnPointTextsSpec)

end Rows
end Go.Proofs.Ytnnojeggjnddpaa
