/-
  No cell of these rows narrows 'for every input' (looked for: loops, veiled, ifaces, maps, wideKeys, modest, calm, conditions, laid).
  DERIVED. THE GIVEN ROWS OF THIS SEAT. 5 by the template 'for every input the law returns true; each argument reads behind the call as it read before'; 0 by the template 'total and deterministic' (their statements: YtgfhhmmckneliaaTotals.lean).
  GIVEN WITH THE SEED: the statements are not yours to turn. If you find one false, say at which input.
  Laid BY PROGRAM, IN A SANDBOX (cutbox-rows.mjs): the forced cells as the released guide's own fill.sh prints them over the translation 625daa9cb0133aba… (all of the seat's roots in one cut). By AI agents, Wed Nov 11 2026. No macro, syntax, notation, axiom, sorry.
-/
import Derived.Test.YtgfhhmmckneliaaChecked
import GoSem.Claim
import GoSem.ClaimJoined
import GoSem.ClaimMapViews
import Derived.JoinedTies
import Derived.KernelRfl
namespace Go.Proofs.Ytgfhhmmckneliaa
/- THE CELL 'sum', in the pinned program and in every row, IS THE sha256 OF THE DUMP (.gsa) THAT YtgfhhmmckneliaaProg.lean LOADS. Nothing in Lean hashes anything: it is a label: what it is worth is what the hold of that sum in a sandbox is worth. -/
noncomputable def Try.pinned : Pinned := { name := "ytgfhhmmckneliaa", sum := "625daa9cb0133aba35ff5df0eaced8c7e0540d32d284fe8f1c7fbc4f99c8182a", checked := Try.checked }
namespace Rows
def none {H : Type} : Left H := { results := [], args := [] }

/-- 'laws.FnExactRingFault': WHATEVER THE INPUT: true; the input reads as it did. -/
def fnExactRingFaultSpec : ChangeSpec := { name := "fnExactRingFault", fn := fun _ => fun
  | [d] => { results := [.lit (.bool true)], args := [d] }
  | _ => none }
def fnExactRingFaultRow : OpenClaim := { program := "ytgfhhmmckneliaa", sum := "625daa9cb0133aba35ff5df0eaced8c7e0540d32d284fe8f1c7fbc4f99c8182a", func := "loop.example/g00225/laws.FnExactRingFault", spec := "fnExactRingFault", unfollowed := true, recurses := true, apart := false }
def FnExactRingFaultSaid : Prop := fnExactRingFaultRow.holds Try.pinned (OpenSpec.ofChange fnExactRingFaultSpec)

/-- ITS FALSE NEIGHBOUR: 'it returns false'. Refute it at one input. -/
def fnExactRingFaultWrong : ChangeSpec := { name := "fnExactRingFault", fn := fun _ => fun
  | [d] => { results := [.lit (.bool false)], args := [d] }
  | _ => none }
def FnExactRingFaultWrongFalsely : Prop := fnExactRingFaultRow.holds Try.pinned (OpenSpec.ofChange fnExactRingFaultWrong)

/-- 'laws.FnExactRingArea2': WHATEVER THE INPUT: true; the input reads as it did. -/
def fnExactRingArea2Spec : ChangeSpec := { name := "fnExactRingArea2", fn := fun _ => fun
  | [d] => { results := [.lit (.bool true)], args := [d] }
  | _ => none }
def fnExactRingArea2Row : OpenClaim := { program := "ytgfhhmmckneliaa", sum := "625daa9cb0133aba35ff5df0eaced8c7e0540d32d284fe8f1c7fbc4f99c8182a", func := "loop.example/g00225/laws.FnExactRingArea2", spec := "fnExactRingArea2", unfollowed := true, recurses := true, apart := false }
def FnExactRingArea2Said : Prop := fnExactRingArea2Row.holds Try.pinned (OpenSpec.ofChange fnExactRingArea2Spec)

/-- ITS FALSE NEIGHBOUR: 'it returns false'. Refute it at one input. -/
def fnExactRingArea2Wrong : ChangeSpec := { name := "fnExactRingArea2", fn := fun _ => fun
  | [d] => { results := [.lit (.bool false)], args := [d] }
  | _ => none }
def FnExactRingArea2WrongFalsely : Prop := fnExactRingArea2Row.holds Try.pinned (OpenSpec.ofChange fnExactRingArea2Wrong)

/-- 'laws.FnExactRingTurned': WHATEVER THE INPUT: true; the input reads as it did. -/
def fnExactRingTurnedSpec : ChangeSpec := { name := "fnExactRingTurned", fn := fun _ => fun
  | [d] => { results := [.lit (.bool true)], args := [d] }
  | _ => none }
def fnExactRingTurnedRow : OpenClaim := { program := "ytgfhhmmckneliaa", sum := "625daa9cb0133aba35ff5df0eaced8c7e0540d32d284fe8f1c7fbc4f99c8182a", func := "loop.example/g00225/laws.FnExactRingTurned", spec := "fnExactRingTurned", unfollowed := true, recurses := true, apart := false }
def FnExactRingTurnedSaid : Prop := fnExactRingTurnedRow.holds Try.pinned (OpenSpec.ofChange fnExactRingTurnedSpec)

/-- ITS FALSE NEIGHBOUR: 'it returns false'. Refute it at one input. -/
def fnExactRingTurnedWrong : ChangeSpec := { name := "fnExactRingTurned", fn := fun _ => fun
  | [d] => { results := [.lit (.bool false)], args := [d] }
  | _ => none }
def FnExactRingTurnedWrongFalsely : Prop := fnExactRingTurnedRow.holds Try.pinned (OpenSpec.ofChange fnExactRingTurnedWrong)

/-- 'laws.FnExactRingSegs': WHATEVER THE INPUT: true; the input reads as it did. -/
def fnExactRingSegsSpec : ChangeSpec := { name := "fnExactRingSegs", fn := fun _ => fun
  | [d] => { results := [.lit (.bool true)], args := [d] }
  | _ => none }
def fnExactRingSegsRow : OpenClaim := { program := "ytgfhhmmckneliaa", sum := "625daa9cb0133aba35ff5df0eaced8c7e0540d32d284fe8f1c7fbc4f99c8182a", func := "loop.example/g00225/laws.FnExactRingSegs", spec := "fnExactRingSegs", unfollowed := true, recurses := true, apart := false }
def FnExactRingSegsSaid : Prop := fnExactRingSegsRow.holds Try.pinned (OpenSpec.ofChange fnExactRingSegsSpec)

/-- ITS FALSE NEIGHBOUR: 'it returns false'. Refute it at one input. -/
def fnExactRingSegsWrong : ChangeSpec := { name := "fnExactRingSegs", fn := fun _ => fun
  | [d] => { results := [.lit (.bool false)], args := [d] }
  | _ => none }
def FnExactRingSegsWrongFalsely : Prop := fnExactRingSegsRow.holds Try.pinned (OpenSpec.ofChange fnExactRingSegsWrong)

/-- 'laws.FnExactRingForm': WHATEVER THE INPUT: true; the input reads as it did. -/
def fnExactRingFormSpec : ChangeSpec := { name := "fnExactRingForm", fn := fun _ => fun
  | [d] => { results := [.lit (.bool true)], args := [d] }
  | _ => none }
def fnExactRingFormRow : OpenClaim := { program := "ytgfhhmmckneliaa", sum := "625daa9cb0133aba35ff5df0eaced8c7e0540d32d284fe8f1c7fbc4f99c8182a", func := "loop.example/g00225/laws.FnExactRingForm", spec := "fnExactRingForm", unfollowed := true, recurses := true, apart := false }
def FnExactRingFormSaid : Prop := fnExactRingFormRow.holds Try.pinned (OpenSpec.ofChange fnExactRingFormSpec)

/-- ITS FALSE NEIGHBOUR: 'it returns false'. Refute it at one input. -/
def fnExactRingFormWrong : ChangeSpec := { name := "fnExactRingForm", fn := fun _ => fun
  | [d] => { results := [.lit (.bool false)], args := [d] }
  | _ => none }
def FnExactRingFormWrongFalsely : Prop := fnExactRingFormRow.holds Try.pinned (OpenSpec.ofChange fnExactRingFormWrong)

/- THE SECOND FORM. 'bulk': how many values and letters a reading holds, each counted each time it is reached (what is shared counts as often as it is met; a slice's spare places count too). A statement '..UptoSaid' is the law's where the arguments, and the package variables that the reading takes, are together of bulk at most 1048576: NARROWER than '..Said'. Prove '..Said' where nothing that the law and all that it calls make is longer than what came in: it says more and counts as full. Else prove '..UptoSaid'. A law counts once. -/
mutual
def uptoBulk {H : Type} : DataW H → Nat
  | .lit (.string bytes) => bytes.length + 1
  | .lit _ => 1
  | .nil => 1
  | .ptr d => uptoBulk d + 1
  | .slice elems spare => uptoBulkAll elems + uptoBulkAll spare + 1
  | .agg parts => uptoBulkAll parts + 1
  | .iface _ d => uptoBulk d + 1
  | .map entries => uptoBulkEntries entries + 1
  | .held _ => 1
def uptoBulkAll {H : Type} : List (DataW H) → Nat
  | [] => 0
  | d :: r => uptoBulk d + uptoBulkAll r
def uptoBulkEntries {H : Type} : List (Lit × DataW H) → Nat
  | [] => 0
  | x :: r => uptoBulkEntry x + uptoBulkEntries r
def uptoBulkEntry {H : Type} : Lit × DataW H → Nat
  | (.string bytes, d) => bytes.length + uptoBulk d + 1
  | (_, d) => uptoBulk d + 1
 end
def uptoSmall : (H : Type) → List (DataW H) → Bool := fun _ ds => decide (uptoBulkAll ds ≤ 1048576)
def OpenSpec.upto (s : _root_.Go.ChangeSpec) : _root_.Go.OpenSpec := { _root_.Go.OpenSpec.ofChange s with cond := some uptoSmall }

/-- 'laws.FnExactRingFault', WHERE WHAT IT READS IS OF BULK AT MOST 1048576: true; the input reads as it did. -/
def fnExactRingFaultUptoRow : OpenClaim := { program := "ytgfhhmmckneliaa", sum := "625daa9cb0133aba35ff5df0eaced8c7e0540d32d284fe8f1c7fbc4f99c8182a", func := "loop.example/g00225/laws.FnExactRingFault", spec := "fnExactRingFault", unfollowed := true, recurses := true, apart := false, narrowed := true }
def FnExactRingFaultUptoSaid : Prop := fnExactRingFaultUptoRow.holds Try.pinned (OpenSpec.upto fnExactRingFaultSpec)

/-- 'laws.FnExactRingArea2', WHERE WHAT IT READS IS OF BULK AT MOST 1048576: true; the input reads as it did. -/
def fnExactRingArea2UptoRow : OpenClaim := { program := "ytgfhhmmckneliaa", sum := "625daa9cb0133aba35ff5df0eaced8c7e0540d32d284fe8f1c7fbc4f99c8182a", func := "loop.example/g00225/laws.FnExactRingArea2", spec := "fnExactRingArea2", unfollowed := true, recurses := true, apart := false, narrowed := true }
def FnExactRingArea2UptoSaid : Prop := fnExactRingArea2UptoRow.holds Try.pinned (OpenSpec.upto fnExactRingArea2Spec)

/-- 'laws.FnExactRingTurned', WHERE WHAT IT READS IS OF BULK AT MOST 1048576: true; the input reads as it did. -/
def fnExactRingTurnedUptoRow : OpenClaim := { program := "ytgfhhmmckneliaa", sum := "625daa9cb0133aba35ff5df0eaced8c7e0540d32d284fe8f1c7fbc4f99c8182a", func := "loop.example/g00225/laws.FnExactRingTurned", spec := "fnExactRingTurned", unfollowed := true, recurses := true, apart := false, narrowed := true }
def FnExactRingTurnedUptoSaid : Prop := fnExactRingTurnedUptoRow.holds Try.pinned (OpenSpec.upto fnExactRingTurnedSpec)

/-- 'laws.FnExactRingSegs', WHERE WHAT IT READS IS OF BULK AT MOST 1048576: true; the input reads as it did. -/
def fnExactRingSegsUptoRow : OpenClaim := { program := "ytgfhhmmckneliaa", sum := "625daa9cb0133aba35ff5df0eaced8c7e0540d32d284fe8f1c7fbc4f99c8182a", func := "loop.example/g00225/laws.FnExactRingSegs", spec := "fnExactRingSegs", unfollowed := true, recurses := true, apart := false, narrowed := true }
def FnExactRingSegsUptoSaid : Prop := fnExactRingSegsUptoRow.holds Try.pinned (OpenSpec.upto fnExactRingSegsSpec)

/-- 'laws.FnExactRingForm', WHERE WHAT IT READS IS OF BULK AT MOST 1048576: true; the input reads as it did. -/
def fnExactRingFormUptoRow : OpenClaim := { program := "ytgfhhmmckneliaa", sum := "625daa9cb0133aba35ff5df0eaced8c7e0540d32d284fe8f1c7fbc4f99c8182a", func := "loop.example/g00225/laws.FnExactRingForm", spec := "fnExactRingForm", unfollowed := true, recurses := true, apart := false, narrowed := true }
def FnExactRingFormUptoSaid : Prop := fnExactRingFormUptoRow.holds Try.pinned (OpenSpec.upto fnExactRingFormSpec)

end Rows
end Go.Proofs.Ytgfhhmmckneliaa
