/-
  No cell of these rows narrows 'for every input' (looked for: loops, veiled, ifaces, maps, wideKeys, modest, calm, conditions, laid).
  DERIVED. THE GIVEN ROWS OF THIS SEAT. 3 by the template 'for every input the law returns true; each argument reads behind the call as it read before'; 0 by the template 'total and deterministic' (their statements: YtofjlobbohfacaaTotals.lean).
  GIVEN WITH THE SEED: the statements are not yours to turn. If you find one false, say at which input.
  Laid BY PROGRAM, IN A SANDBOX (cutbox-rows.mjs): the forced cells as the released guide's own fill.sh prints them over the translation 7781ea4e9380c3cf… (all of the seat's roots in one cut). By AI agents, Wed Nov 11 2026. No macro, syntax, notation, axiom, sorry.
-/
import Derived.Test.YtofjlobbohfacaaChecked
import GoSem.Claim
import GoSem.ClaimJoined
import GoSem.ClaimMapViews
import Derived.JoinedTies
import Derived.KernelRfl
namespace Go.Proofs.Ytofjlobbohfacaa
/- THE CELL 'sum', in the pinned program and in every row, IS THE sha256 OF THE DUMP (.gsa) THAT YtofjlobbohfacaaProg.lean LOADS. Nothing in Lean hashes anything: it is a label: what it is worth is what the hold of that sum in a sandbox is worth. -/
noncomputable def Try.pinned : Pinned := { name := "ytofjlobbohfacaa", sum := "7781ea4e9380c3cfd80cc7f4a6f05145ac02d975164dae077c529ad1f33a4732", checked := Try.checked }
namespace Rows
def none {H : Type} : Left H := { results := [], args := [] }

/-- 'laws.FnExactLoopsSide': WHATEVER THE INPUT: true; the input reads as it did. -/
def fnExactLoopsSideSpec : ChangeSpec := { name := "fnExactLoopsSide", fn := fun _ => fun
  | [d1, d2] => { results := [.lit (.bool true)], args := [d1, d2] }
  | _ => none }
def fnExactLoopsSideRow : OpenClaim := { program := "ytofjlobbohfacaa", sum := "7781ea4e9380c3cfd80cc7f4a6f05145ac02d975164dae077c529ad1f33a4732", func := "loop.example/g00225/laws.FnExactLoopsSide", spec := "fnExactLoopsSide", inPlace := ["math/bits.Sub64", "math/bits.Add64"], named := ["math/bits.divideError", "math/bits.overflowError"], apart := false }
def FnExactLoopsSideSaid : Prop := fnExactLoopsSideRow.holds Try.pinned (OpenSpec.ofChange fnExactLoopsSideSpec)

/-- ITS FALSE NEIGHBOUR: 'it returns false'. Refute it at one input. -/
def fnExactLoopsSideWrong : ChangeSpec := { name := "fnExactLoopsSide", fn := fun _ => fun
  | [d1, d2] => { results := [.lit (.bool false)], args := [d1, d2] }
  | _ => none }
def FnExactLoopsSideWrongFalsely : Prop := fnExactLoopsSideRow.holds Try.pinned (OpenSpec.ofChange fnExactLoopsSideWrong)

/-- 'laws.FnExactEventsOk': WHATEVER THE INPUT: true; the input reads as it did. -/
def fnExactEventsOkSpec : ChangeSpec := { name := "fnExactEventsOk", fn := fun _ => fun
  | [d] => { results := [.lit (.bool true)], args := [d] }
  | _ => none }
def fnExactEventsOkRow : OpenClaim := { program := "ytofjlobbohfacaa", sum := "7781ea4e9380c3cfd80cc7f4a6f05145ac02d975164dae077c529ad1f33a4732", func := "loop.example/g00225/laws.FnExactEventsOk", spec := "fnExactEventsOk", inPlace := ["math/bits.Sub64", "math/bits.Add64"], named := ["math/bits.divideError", "math/bits.overflowError"], apart := false }
def FnExactEventsOkSaid : Prop := fnExactEventsOkRow.holds Try.pinned (OpenSpec.ofChange fnExactEventsOkSpec)

/-- ITS FALSE NEIGHBOUR: 'it returns false'. Refute it at one input. -/
def fnExactEventsOkWrong : ChangeSpec := { name := "fnExactEventsOk", fn := fun _ => fun
  | [d] => { results := [.lit (.bool false)], args := [d] }
  | _ => none }
def FnExactEventsOkWrongFalsely : Prop := fnExactEventsOkRow.holds Try.pinned (OpenSpec.ofChange fnExactEventsOkWrong)

/-- 'laws.FnExactQuadNew': WHATEVER THE INPUT: true; the input reads as it did. -/
def fnExactQuadNewSpec : ChangeSpec := { name := "fnExactQuadNew", fn := fun _ => fun
  | [d1, d2] => { results := [.lit (.bool true)], args := [d1, d2] }
  | _ => none }
def fnExactQuadNewRow : OpenClaim := { program := "ytofjlobbohfacaa", sum := "7781ea4e9380c3cfd80cc7f4a6f05145ac02d975164dae077c529ad1f33a4732", func := "loop.example/g00225/laws.FnExactQuadNew", spec := "fnExactQuadNew", recurses := true, apart := false }
def FnExactQuadNewSaid : Prop := fnExactQuadNewRow.holds Try.pinned (OpenSpec.ofChange fnExactQuadNewSpec)

/-- ITS FALSE NEIGHBOUR: 'it returns false'. Refute it at one input. -/
def fnExactQuadNewWrong : ChangeSpec := { name := "fnExactQuadNew", fn := fun _ => fun
  | [d1, d2] => { results := [.lit (.bool false)], args := [d1, d2] }
  | _ => none }
def FnExactQuadNewWrongFalsely : Prop := fnExactQuadNewRow.holds Try.pinned (OpenSpec.ofChange fnExactQuadNewWrong)

/- THE SECOND FORM. 'bulk': how many values and letters a reading holds, each counted each time it is reached (what is shared counts as often as it is met; a slice's spare places count too). A statement '..UptoSaid' is the law's where the arguments, and the package variables that the reading takes, are together of bulk at most 1048576: NARROWER than '..Said'. Prove '..Said' where nothing that the law and all that it calls make is longer than what came in: it says more and counts as full. Else prove '..UptoSaid'. A law counts once. -/
mutual
def uptoBulk {H : Type} : DataW H → Nat
  | .lit (.string bytes) => bytes.length + 1
  | .lit _ => 1
  | .nil => 1
  | .ptr d => uptoBulk d + 1
  | .slice elems spare => uptoBulkAll elems + uptoBulkAll spare + 1
  | .agg parts => uptoBulkAll parts + 1
  | .iface _ d => uptoBulk d + 1
  | .map entries => uptoBulkEntries entries + 1
  | .held _ => 1
def uptoBulkAll {H : Type} : List (DataW H) → Nat
  | [] => 0
  | d :: r => uptoBulk d + uptoBulkAll r
def uptoBulkEntries {H : Type} : List (Lit × DataW H) → Nat
  | [] => 0
  | x :: r => uptoBulkEntry x + uptoBulkEntries r
def uptoBulkEntry {H : Type} : Lit × DataW H → Nat
  | (.string bytes, d) => bytes.length + uptoBulk d + 1
  | (_, d) => uptoBulk d + 1
 end
def uptoSmall : (H : Type) → List (DataW H) → Bool := fun _ ds => decide (uptoBulkAll ds ≤ 1048576)
def OpenSpec.upto (s : _root_.Go.ChangeSpec) : _root_.Go.OpenSpec := { _root_.Go.OpenSpec.ofChange s with cond := some uptoSmall }

/-- 'laws.FnExactLoopsSide', WHERE WHAT IT READS IS OF BULK AT MOST 1048576: true; the input reads as it did. -/
def fnExactLoopsSideUptoRow : OpenClaim := { program := "ytofjlobbohfacaa", sum := "7781ea4e9380c3cfd80cc7f4a6f05145ac02d975164dae077c529ad1f33a4732", func := "loop.example/g00225/laws.FnExactLoopsSide", spec := "fnExactLoopsSide", inPlace := ["math/bits.Sub64", "math/bits.Add64"], named := ["math/bits.divideError", "math/bits.overflowError"], apart := false, narrowed := true }
def FnExactLoopsSideUptoSaid : Prop := fnExactLoopsSideUptoRow.holds Try.pinned (OpenSpec.upto fnExactLoopsSideSpec)

/-- 'laws.FnExactEventsOk', WHERE WHAT IT READS IS OF BULK AT MOST 1048576: true; the input reads as it did. -/
def fnExactEventsOkUptoRow : OpenClaim := { program := "ytofjlobbohfacaa", sum := "7781ea4e9380c3cfd80cc7f4a6f05145ac02d975164dae077c529ad1f33a4732", func := "loop.example/g00225/laws.FnExactEventsOk", spec := "fnExactEventsOk", inPlace := ["math/bits.Sub64", "math/bits.Add64"], named := ["math/bits.divideError", "math/bits.overflowError"], apart := false, narrowed := true }
def FnExactEventsOkUptoSaid : Prop := fnExactEventsOkUptoRow.holds Try.pinned (OpenSpec.upto fnExactEventsOkSpec)

/-- 'laws.FnExactQuadNew', WHERE WHAT IT READS IS OF BULK AT MOST 1048576: true; the input reads as it did. -/
def fnExactQuadNewUptoRow : OpenClaim := { program := "ytofjlobbohfacaa", sum := "7781ea4e9380c3cfd80cc7f4a6f05145ac02d975164dae077c529ad1f33a4732", func := "loop.example/g00225/laws.FnExactQuadNew", spec := "fnExactQuadNew", recurses := true, apart := false, narrowed := true }
def FnExactQuadNewUptoSaid : Prop := fnExactQuadNewUptoRow.holds Try.pinned (OpenSpec.upto fnExactQuadNewSpec)

end Rows
end Go.Proofs.Ytofjlobbohfacaa
