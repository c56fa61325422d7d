/-
  No cell of these rows narrows 'for every input' (looked for: loops, veiled, ifaces, maps, wideKeys, modest, calm, conditions, laid).
  DERIVED. THE GIVEN ROWS OF THIS SEAT. 5 by the template 'for every input the law returns true; each argument reads behind the call as it read before'; 0 by the template 'total and deterministic' (their statements: YtmjlgmoohpnhfaaTotals.lean).
  GIVEN WITH THE SEED: the statements are not yours to turn. If you find one false, say at which input.
  Laid BY PROGRAM, IN A SANDBOX (cutbox-rows.mjs): the forced cells as the released guide's own fill.sh prints them over the translation 01e21c034f4de95f… (all of the seat's roots in one cut). By AI agents, Wed Nov 11 2026. No macro, syntax, notation, axiom, sorry.
-/
import Derived.Test.YtmjlgmoohpnhfaaChecked
import GoSem.Claim
import GoSem.ClaimJoined
import GoSem.ClaimMapViews
import Derived.JoinedTies
import Derived.KernelRfl
namespace Go.Proofs.Ytmjlgmoohpnhfaa
/- THE CELL 'sum', in the pinned program and in every row, IS THE sha256 OF THE DUMP (.gsa) THAT YtmjlgmoohpnhfaaProg.lean LOADS. Nothing in Lean hashes anything: it is a label: what it is worth is what the hold of that sum in a sandbox is worth. -/
noncomputable def Try.pinned : Pinned := { name := "ytmjlgmoohpnhfaa", sum := "01e21c034f4de95f19712f5cb162876e391dcfbea7e6b0ed9dab25e1c5d59f7b", checked := Try.checked }
namespace Rows
def none {H : Type} : Left H := { results := [], args := [] }

/-- 'laws.FnExactRingForm': WHATEVER THE INPUT: true; the input reads as it did. -/
def fnExactRingFormSpec : ChangeSpec := { name := "fnExactRingForm", fn := fun _ => fun
  | [d] => { results := [.lit (.bool true)], args := [d] }
  | _ => none }
def fnExactRingFormRow : OpenClaim := { program := "ytmjlgmoohpnhfaa", sum := "01e21c034f4de95f19712f5cb162876e391dcfbea7e6b0ed9dab25e1c5d59f7b", func := "loop.example/g00225/laws.FnExactRingForm", spec := "fnExactRingForm", unfollowed := true, recurses := true, apart := false }
def FnExactRingFormSaid : Prop := fnExactRingFormRow.holds Try.pinned (OpenSpec.ofChange fnExactRingFormSpec)

/-- ITS FALSE NEIGHBOUR: 'it returns false'. Refute it at one input. -/
def fnExactRingFormWrong : ChangeSpec := { name := "fnExactRingForm", fn := fun _ => fun
  | [d] => { results := [.lit (.bool false)], args := [d] }
  | _ => none }
def FnExactRingFormWrongFalsely : Prop := fnExactRingFormRow.holds Try.pinned (OpenSpec.ofChange fnExactRingFormWrong)

/-- 'laws.FnExactRingsMeet': WHATEVER THE INPUT: true; the input reads as it did. -/
def fnExactRingsMeetSpec : ChangeSpec := { name := "fnExactRingsMeet", fn := fun _ => fun
  | [d1, d2] => { results := [.lit (.bool true)], args := [d1, d2] }
  | _ => none }
def fnExactRingsMeetRow : OpenClaim := { program := "ytmjlgmoohpnhfaa", sum := "01e21c034f4de95f19712f5cb162876e391dcfbea7e6b0ed9dab25e1c5d59f7b", func := "loop.example/g00225/laws.FnExactRingsMeet", spec := "fnExactRingsMeet", unfollowed := true, recurses := true, apart := false }
def FnExactRingsMeetSaid : Prop := fnExactRingsMeetRow.holds Try.pinned (OpenSpec.ofChange fnExactRingsMeetSpec)

/-- ITS FALSE NEIGHBOUR: 'it returns false'. Refute it at one input. -/
def fnExactRingsMeetWrong : ChangeSpec := { name := "fnExactRingsMeet", fn := fun _ => fun
  | [d1, d2] => { results := [.lit (.bool false)], args := [d1, d2] }
  | _ => none }
def FnExactRingsMeetWrongFalsely : Prop := fnExactRingsMeetRow.holds Try.pinned (OpenSpec.ofChange fnExactRingsMeetWrong)

/-- 'laws.FnExactEventsOk': WHATEVER THE INPUT: true; the input reads as it did. -/
def fnExactEventsOkSpec : ChangeSpec := { name := "fnExactEventsOk", fn := fun _ => fun
  | [d] => { results := [.lit (.bool true)], args := [d] }
  | _ => none }
def fnExactEventsOkRow : OpenClaim := { program := "ytmjlgmoohpnhfaa", sum := "01e21c034f4de95f19712f5cb162876e391dcfbea7e6b0ed9dab25e1c5d59f7b", func := "loop.example/g00225/laws.FnExactEventsOk", spec := "fnExactEventsOk", inPlace := ["math/bits.Sub64", "math/bits.Add64"], named := ["math/bits.divideError", "math/bits.overflowError"], apart := false }
def FnExactEventsOkSaid : Prop := fnExactEventsOkRow.holds Try.pinned (OpenSpec.ofChange fnExactEventsOkSpec)

/-- ITS FALSE NEIGHBOUR: 'it returns false'. Refute it at one input. -/
def fnExactEventsOkWrong : ChangeSpec := { name := "fnExactEventsOk", fn := fun _ => fun
  | [d] => { results := [.lit (.bool false)], args := [d] }
  | _ => none }
def FnExactEventsOkWrongFalsely : Prop := fnExactEventsOkRow.holds Try.pinned (OpenSpec.ofChange fnExactEventsOkWrong)

/-- 'laws.FnExactNearestSeg': WHATEVER THE INPUT: true; the input reads as it did. -/
def fnExactNearestSegSpec : ChangeSpec := { name := "fnExactNearestSeg", fn := fun _ => fun
  | [d1, d2] => { results := [.lit (.bool true)], args := [d1, d2] }
  | _ => none }
def fnExactNearestSegRow : OpenClaim := { program := "ytmjlgmoohpnhfaa", sum := "01e21c034f4de95f19712f5cb162876e391dcfbea7e6b0ed9dab25e1c5d59f7b", func := "loop.example/g00225/laws.FnExactNearestSeg", spec := "fnExactNearestSeg", inPlace := ["math/bits.Sub64", "math/bits.Add64"], unfollowed := true, recurses := true, named := ["math/bits.divideError", "math/bits.overflowError"], apart := false }
def FnExactNearestSegSaid : Prop := fnExactNearestSegRow.holds Try.pinned (OpenSpec.ofChange fnExactNearestSegSpec)

/-- ITS FALSE NEIGHBOUR: 'it returns false'. Refute it at one input. -/
def fnExactNearestSegWrong : ChangeSpec := { name := "fnExactNearestSeg", fn := fun _ => fun
  | [d1, d2] => { results := [.lit (.bool false)], args := [d1, d2] }
  | _ => none }
def FnExactNearestSegWrongFalsely : Prop := fnExactNearestSegRow.holds Try.pinned (OpenSpec.ofChange fnExactNearestSegWrong)

/-- 'laws.FnExactFree': WHATEVER THE INPUT: true; the input reads as it did. -/
def fnExactFreeSpec : ChangeSpec := { name := "fnExactFree", fn := fun _ => fun
  | [d1, d2] => { results := [.lit (.bool true)], args := [d1, d2] }
  | _ => none }
def fnExactFreeRow : OpenClaim := { program := "ytmjlgmoohpnhfaa", sum := "01e21c034f4de95f19712f5cb162876e391dcfbea7e6b0ed9dab25e1c5d59f7b", func := "loop.example/g00225/laws.FnExactFree", spec := "fnExactFree", inPlace := ["math/bits.Sub64", "math/bits.Add64"], unfollowed := true, recurses := true, apart := false }
def FnExactFreeSaid : Prop := fnExactFreeRow.holds Try.pinned (OpenSpec.ofChange fnExactFreeSpec)

/-- ITS FALSE NEIGHBOUR: 'it returns false'. Refute it at one input. -/
def fnExactFreeWrong : ChangeSpec := { name := "fnExactFree", fn := fun _ => fun
  | [d1, d2] => { results := [.lit (.bool false)], args := [d1, d2] }
  | _ => none }
def FnExactFreeWrongFalsely : Prop := fnExactFreeRow.holds Try.pinned (OpenSpec.ofChange fnExactFreeWrong)

/- THE SECOND FORM. 'bulk': how many values and letters a reading holds, each counted each time it is reached (what is shared counts as often as it is met; a slice's spare places count too). A statement '..UptoSaid' is the law's where the arguments, and the package variables that the reading takes, are together of bulk at most 1048576: NARROWER than '..Said'. Prove '..Said' where nothing that the law and all that it calls make is longer than what came in: it says more and counts as full. Else prove '..UptoSaid'. A law counts once. -/
mutual
def uptoBulk {H : Type} : DataW H → Nat
  | .lit (.string bytes) => bytes.length + 1
  | .lit _ => 1
  | .nil => 1
  | .ptr d => uptoBulk d + 1
  | .slice elems spare => uptoBulkAll elems + uptoBulkAll spare + 1
  | .agg parts => uptoBulkAll parts + 1
  | .iface _ d => uptoBulk d + 1
  | .map entries => uptoBulkEntries entries + 1
  | .held _ => 1
def uptoBulkAll {H : Type} : List (DataW H) → Nat
  | [] => 0
  | d :: r => uptoBulk d + uptoBulkAll r
def uptoBulkEntries {H : Type} : List (Lit × DataW H) → Nat
  | [] => 0
  | x :: r => uptoBulkEntry x + uptoBulkEntries r
def uptoBulkEntry {H : Type} : Lit × DataW H → Nat
  | (.string bytes, d) => bytes.length + uptoBulk d + 1
  | (_, d) => uptoBulk d + 1
 end
def uptoSmall : (H : Type) → List (DataW H) → Bool := fun _ ds => decide (uptoBulkAll ds ≤ 1048576)
def OpenSpec.upto (s : _root_.Go.ChangeSpec) : _root_.Go.OpenSpec := { _root_.Go.OpenSpec.ofChange s with cond := some uptoSmall }

/-- 'laws.FnExactRingForm', WHERE WHAT IT READS IS OF BULK AT MOST 1048576: true; the input reads as it did. -/
def fnExactRingFormUptoRow : OpenClaim := { program := "ytmjlgmoohpnhfaa", sum := "01e21c034f4de95f19712f5cb162876e391dcfbea7e6b0ed9dab25e1c5d59f7b", func := "loop.example/g00225/laws.FnExactRingForm", spec := "fnExactRingForm", unfollowed := true, recurses := true, apart := false, narrowed := true }
def FnExactRingFormUptoSaid : Prop := fnExactRingFormUptoRow.holds Try.pinned (OpenSpec.upto fnExactRingFormSpec)

/-- 'laws.FnExactRingsMeet', WHERE WHAT IT READS IS OF BULK AT MOST 1048576: true; the input reads as it did. -/
def fnExactRingsMeetUptoRow : OpenClaim := { program := "ytmjlgmoohpnhfaa", sum := "01e21c034f4de95f19712f5cb162876e391dcfbea7e6b0ed9dab25e1c5d59f7b", func := "loop.example/g00225/laws.FnExactRingsMeet", spec := "fnExactRingsMeet", unfollowed := true, recurses := true, apart := false, narrowed := true }
def FnExactRingsMeetUptoSaid : Prop := fnExactRingsMeetUptoRow.holds Try.pinned (OpenSpec.upto fnExactRingsMeetSpec)

/-- 'laws.FnExactEventsOk', WHERE WHAT IT READS IS OF BULK AT MOST 1048576: true; the input reads as it did. -/
def fnExactEventsOkUptoRow : OpenClaim := { program := "ytmjlgmoohpnhfaa", sum := "01e21c034f4de95f19712f5cb162876e391dcfbea7e6b0ed9dab25e1c5d59f7b", func := "loop.example/g00225/laws.FnExactEventsOk", spec := "fnExactEventsOk", inPlace := ["math/bits.Sub64", "math/bits.Add64"], named := ["math/bits.divideError", "math/bits.overflowError"], apart := false, narrowed := true }
def FnExactEventsOkUptoSaid : Prop := fnExactEventsOkUptoRow.holds Try.pinned (OpenSpec.upto fnExactEventsOkSpec)

/-- 'laws.FnExactNearestSeg', WHERE WHAT IT READS IS OF BULK AT MOST 1048576: true; the input reads as it did. -/
def fnExactNearestSegUptoRow : OpenClaim := { program := "ytmjlgmoohpnhfaa", sum := "01e21c034f4de95f19712f5cb162876e391dcfbea7e6b0ed9dab25e1c5d59f7b", func := "loop.example/g00225/laws.FnExactNearestSeg", spec := "fnExactNearestSeg", inPlace := ["math/bits.Sub64", "math/bits.Add64"], unfollowed := true, recurses := true, named := ["math/bits.divideError", "math/bits.overflowError"], apart := false, narrowed := true }
def FnExactNearestSegUptoSaid : Prop := fnExactNearestSegUptoRow.holds Try.pinned (OpenSpec.upto fnExactNearestSegSpec)

/-- 'laws.FnExactFree', WHERE WHAT IT READS IS OF BULK AT MOST 1048576: true; the input reads as it did. -/
def fnExactFreeUptoRow : OpenClaim := { program := "ytmjlgmoohpnhfaa", sum := "01e21c034f4de95f19712f5cb162876e391dcfbea7e6b0ed9dab25e1c5d59f7b", func := "loop.example/g00225/laws.FnExactFree", spec := "fnExactFree", inPlace := ["math/bits.Sub64", "math/bits.Add64"], unfollowed := true, recurses := true, apart := false, narrowed := true }
def FnExactFreeUptoSaid : Prop := fnExactFreeUptoRow.holds Try.pinned (OpenSpec.upto fnExactFreeSpec)

end Rows
end Go.Proofs.Ytmjlgmoohpnhfaa
