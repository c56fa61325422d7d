/-
  No cell of these rows narrows 'for every input' (looked for: loops, veiled, ifaces, maps, wideKeys, modest, calm, conditions, laid).
  DERIVED. THE GIVEN ROWS OF THIS SEAT. 6 by the template 'for every input the law returns true; each argument reads behind the call as it read before'; 0 by the template 'total and deterministic' (their statements: YtggfhpnflknhdaaTotals.lean).
  GIVEN WITH THE SEED: the statements are not yours to turn. If you find one false, say at which input.
  Laid BY PROGRAM, IN A SANDBOX (cutbox-rows.mjs): the forced cells as the released guide's own fill.sh prints them over the translation 0353b8d5f8b2e6b4… (all of the seat's roots in one cut). By AI agents, Wed Nov 11 2026. No macro, syntax, notation, axiom, sorry.
-/
import Derived.Test.YtggfhpnflknhdaaChecked
import GoSem.Claim
import GoSem.ClaimJoined
import GoSem.ClaimMapViews
import Derived.JoinedTies
import Derived.KernelRfl
namespace Go.Proofs.Ytggfhpnflknhdaa
/- THE CELL 'sum', in the pinned program and in every row, IS THE sha256 OF THE DUMP (.gsa) THAT YtggfhpnflknhdaaProg.lean LOADS. Nothing in Lean hashes anything: it is a label: what it is worth is what the hold of that sum in a sandbox is worth. -/
noncomputable def Try.pinned : Pinned := { name := "ytggfhpnflknhdaa", sum := "0353b8d5f8b2e6b4c64ccae8dd57eb1bd9b34ec1527f08c90e0c858d1ce1c674", checked := Try.checked }
namespace Rows
def none {H : Type} : Left H := { results := [], args := [] }

/-- 'laws.FnExactMeet': WHATEVER THE INPUT: true; the input reads as it did. -/
def fnExactMeetSpec : ChangeSpec := { name := "fnExactMeet", fn := fun _ => fun
  | [d1, d2] => { results := [.lit (.bool true)], args := [d1, d2] }
  | _ => none }
def fnExactMeetRow : OpenClaim := { program := "ytggfhpnflknhdaa", sum := "0353b8d5f8b2e6b4c64ccae8dd57eb1bd9b34ec1527f08c90e0c858d1ce1c674", func := "loop.example/g00225/laws.FnExactMeet", spec := "fnExactMeet", apart := false }
def FnExactMeetSaid : Prop := fnExactMeetRow.holds Try.pinned (OpenSpec.ofChange fnExactMeetSpec)

/-- ITS FALSE NEIGHBOUR: 'it returns false'. Refute it at one input. -/
def fnExactMeetWrong : ChangeSpec := { name := "fnExactMeet", fn := fun _ => fun
  | [d1, d2] => { results := [.lit (.bool false)], args := [d1, d2] }
  | _ => none }
def FnExactMeetWrongFalsely : Prop := fnExactMeetRow.holds Try.pinned (OpenSpec.ofChange fnExactMeetWrong)

/-- 'laws.FnExactRingArea2': WHATEVER THE INPUT: true; the input reads as it did. -/
def fnExactRingArea2Spec : ChangeSpec := { name := "fnExactRingArea2", fn := fun _ => fun
  | [d] => { results := [.lit (.bool true)], args := [d] }
  | _ => none }
def fnExactRingArea2Row : OpenClaim := { program := "ytggfhpnflknhdaa", sum := "0353b8d5f8b2e6b4c64ccae8dd57eb1bd9b34ec1527f08c90e0c858d1ce1c674", func := "loop.example/g00225/laws.FnExactRingArea2", spec := "fnExactRingArea2", unfollowed := true, recurses := true, apart := false }
def FnExactRingArea2Said : Prop := fnExactRingArea2Row.holds Try.pinned (OpenSpec.ofChange fnExactRingArea2Spec)

/-- ITS FALSE NEIGHBOUR: 'it returns false'. Refute it at one input. -/
def fnExactRingArea2Wrong : ChangeSpec := { name := "fnExactRingArea2", fn := fun _ => fun
  | [d] => { results := [.lit (.bool false)], args := [d] }
  | _ => none }
def FnExactRingArea2WrongFalsely : Prop := fnExactRingArea2Row.holds Try.pinned (OpenSpec.ofChange fnExactRingArea2Wrong)

/-- 'laws.FnExactRingTurned': WHATEVER THE INPUT: true; the input reads as it did. -/
def fnExactRingTurnedSpec : ChangeSpec := { name := "fnExactRingTurned", fn := fun _ => fun
  | [d] => { results := [.lit (.bool true)], args := [d] }
  | _ => none }
def fnExactRingTurnedRow : OpenClaim := { program := "ytggfhpnflknhdaa", sum := "0353b8d5f8b2e6b4c64ccae8dd57eb1bd9b34ec1527f08c90e0c858d1ce1c674", func := "loop.example/g00225/laws.FnExactRingTurned", spec := "fnExactRingTurned", unfollowed := true, recurses := true, apart := false }
def FnExactRingTurnedSaid : Prop := fnExactRingTurnedRow.holds Try.pinned (OpenSpec.ofChange fnExactRingTurnedSpec)

/-- ITS FALSE NEIGHBOUR: 'it returns false'. Refute it at one input. -/
def fnExactRingTurnedWrong : ChangeSpec := { name := "fnExactRingTurned", fn := fun _ => fun
  | [d] => { results := [.lit (.bool false)], args := [d] }
  | _ => none }
def FnExactRingTurnedWrongFalsely : Prop := fnExactRingTurnedRow.holds Try.pinned (OpenSpec.ofChange fnExactRingTurnedWrong)

/-- 'laws.FnExactRingSegs': WHATEVER THE INPUT: true; the input reads as it did. -/
def fnExactRingSegsSpec : ChangeSpec := { name := "fnExactRingSegs", fn := fun _ => fun
  | [d] => { results := [.lit (.bool true)], args := [d] }
  | _ => none }
def fnExactRingSegsRow : OpenClaim := { program := "ytggfhpnflknhdaa", sum := "0353b8d5f8b2e6b4c64ccae8dd57eb1bd9b34ec1527f08c90e0c858d1ce1c674", func := "loop.example/g00225/laws.FnExactRingSegs", spec := "fnExactRingSegs", unfollowed := true, recurses := true, apart := false }
def FnExactRingSegsSaid : Prop := fnExactRingSegsRow.holds Try.pinned (OpenSpec.ofChange fnExactRingSegsSpec)

/-- ITS FALSE NEIGHBOUR: 'it returns false'. Refute it at one input. -/
def fnExactRingSegsWrong : ChangeSpec := { name := "fnExactRingSegs", fn := fun _ => fun
  | [d] => { results := [.lit (.bool false)], args := [d] }
  | _ => none }
def FnExactRingSegsWrongFalsely : Prop := fnExactRingSegsRow.holds Try.pinned (OpenSpec.ofChange fnExactRingSegsWrong)

/-- 'laws.FnExactEventsOk': WHATEVER THE INPUT: true; the input reads as it did. -/
def fnExactEventsOkSpec : ChangeSpec := { name := "fnExactEventsOk", fn := fun _ => fun
  | [d] => { results := [.lit (.bool true)], args := [d] }
  | _ => none }
def fnExactEventsOkRow : OpenClaim := { program := "ytggfhpnflknhdaa", sum := "0353b8d5f8b2e6b4c64ccae8dd57eb1bd9b34ec1527f08c90e0c858d1ce1c674", func := "loop.example/g00225/laws.FnExactEventsOk", spec := "fnExactEventsOk", inPlace := ["math/bits.Sub64", "math/bits.Add64"], named := ["math/bits.divideError", "math/bits.overflowError"], apart := false }
def FnExactEventsOkSaid : Prop := fnExactEventsOkRow.holds Try.pinned (OpenSpec.ofChange fnExactEventsOkSpec)

/-- ITS FALSE NEIGHBOUR: 'it returns false'. Refute it at one input. -/
def fnExactEventsOkWrong : ChangeSpec := { name := "fnExactEventsOk", fn := fun _ => fun
  | [d] => { results := [.lit (.bool false)], args := [d] }
  | _ => none }
def FnExactEventsOkWrongFalsely : Prop := fnExactEventsOkRow.holds Try.pinned (OpenSpec.ofChange fnExactEventsOkWrong)

/-- 'laws.FnExactLoopsOk': WHATEVER THE INPUT: true; the input reads as it did. -/
def fnExactLoopsOkSpec : ChangeSpec := { name := "fnExactLoopsOk", fn := fun _ => fun
  | [d] => { results := [.lit (.bool true)], args := [d] }
  | _ => none }
def fnExactLoopsOkRow : OpenClaim := { program := "ytggfhpnflknhdaa", sum := "0353b8d5f8b2e6b4c64ccae8dd57eb1bd9b34ec1527f08c90e0c858d1ce1c674", func := "loop.example/g00225/laws.FnExactLoopsOk", spec := "fnExactLoopsOk", inPlace := ["math/bits.Sub64", "math/bits.Add64"], named := ["math/bits.divideError", "math/bits.overflowError"], apart := false }
def FnExactLoopsOkSaid : Prop := fnExactLoopsOkRow.holds Try.pinned (OpenSpec.ofChange fnExactLoopsOkSpec)

/-- ITS FALSE NEIGHBOUR: 'it returns false'. Refute it at one input. -/
def fnExactLoopsOkWrong : ChangeSpec := { name := "fnExactLoopsOk", fn := fun _ => fun
  | [d] => { results := [.lit (.bool false)], args := [d] }
  | _ => none }
def FnExactLoopsOkWrongFalsely : Prop := fnExactLoopsOkRow.holds Try.pinned (OpenSpec.ofChange fnExactLoopsOkWrong)

/- THE SECOND FORM. 'bulk': how many values and letters a reading holds, each counted each time it is reached (what is shared counts as often as it is met; a slice's spare places count too). A statement '..UptoSaid' is the law's where the arguments, and the package variables that the reading takes, are together of bulk at most 1048576: NARROWER than '..Said'. Prove '..Said' where nothing that the law and all that it calls make is longer than what came in: it says more and counts as full. Else prove '..UptoSaid'. A law counts once. -/
mutual
def uptoBulk {H : Type} : DataW H → Nat
  | .lit (.string bytes) => bytes.length + 1
  | .lit _ => 1
  | .nil => 1
  | .ptr d => uptoBulk d + 1
  | .slice elems spare => uptoBulkAll elems + uptoBulkAll spare + 1
  | .agg parts => uptoBulkAll parts + 1
  | .iface _ d => uptoBulk d + 1
  | .map entries => uptoBulkEntries entries + 1
  | .held _ => 1
def uptoBulkAll {H : Type} : List (DataW H) → Nat
  | [] => 0
  | d :: r => uptoBulk d + uptoBulkAll r
def uptoBulkEntries {H : Type} : List (Lit × DataW H) → Nat
  | [] => 0
  | x :: r => uptoBulkEntry x + uptoBulkEntries r
def uptoBulkEntry {H : Type} : Lit × DataW H → Nat
  | (.string bytes, d) => bytes.length + uptoBulk d + 1
  | (_, d) => uptoBulk d + 1
 end
def uptoSmall : (H : Type) → List (DataW H) → Bool := fun _ ds => decide (uptoBulkAll ds ≤ 1048576)
def OpenSpec.upto (s : _root_.Go.ChangeSpec) : _root_.Go.OpenSpec := { _root_.Go.OpenSpec.ofChange s with cond := some uptoSmall }

/-- 'laws.FnExactMeet', WHERE WHAT IT READS IS OF BULK AT MOST 1048576: true; the input reads as it did. -/
def fnExactMeetUptoRow : OpenClaim := { program := "ytggfhpnflknhdaa", sum := "0353b8d5f8b2e6b4c64ccae8dd57eb1bd9b34ec1527f08c90e0c858d1ce1c674", func := "loop.example/g00225/laws.FnExactMeet", spec := "fnExactMeet", apart := false, narrowed := true }
def FnExactMeetUptoSaid : Prop := fnExactMeetUptoRow.holds Try.pinned (OpenSpec.upto fnExactMeetSpec)

/-- 'laws.FnExactRingArea2', WHERE WHAT IT READS IS OF BULK AT MOST 1048576: true; the input reads as it did. -/
def fnExactRingArea2UptoRow : OpenClaim := { program := "ytggfhpnflknhdaa", sum := "0353b8d5f8b2e6b4c64ccae8dd57eb1bd9b34ec1527f08c90e0c858d1ce1c674", func := "loop.example/g00225/laws.FnExactRingArea2", spec := "fnExactRingArea2", unfollowed := true, recurses := true, apart := false, narrowed := true }
def FnExactRingArea2UptoSaid : Prop := fnExactRingArea2UptoRow.holds Try.pinned (OpenSpec.upto fnExactRingArea2Spec)

/-- 'laws.FnExactRingTurned', WHERE WHAT IT READS IS OF BULK AT MOST 1048576: true; the input reads as it did. -/
def fnExactRingTurnedUptoRow : OpenClaim := { program := "ytggfhpnflknhdaa", sum := "0353b8d5f8b2e6b4c64ccae8dd57eb1bd9b34ec1527f08c90e0c858d1ce1c674", func := "loop.example/g00225/laws.FnExactRingTurned", spec := "fnExactRingTurned", unfollowed := true, recurses := true, apart := false, narrowed := true }
def FnExactRingTurnedUptoSaid : Prop := fnExactRingTurnedUptoRow.holds Try.pinned (OpenSpec.upto fnExactRingTurnedSpec)

/-- 'laws.FnExactRingSegs', WHERE WHAT IT READS IS OF BULK AT MOST 1048576: true; the input reads as it did. -/
def fnExactRingSegsUptoRow : OpenClaim := { program := "ytggfhpnflknhdaa", sum := "0353b8d5f8b2e6b4c64ccae8dd57eb1bd9b34ec1527f08c90e0c858d1ce1c674", func := "loop.example/g00225/laws.FnExactRingSegs", spec := "fnExactRingSegs", unfollowed := true, recurses := true, apart := false, narrowed := true }
def FnExactRingSegsUptoSaid : Prop := fnExactRingSegsUptoRow.holds Try.pinned (OpenSpec.upto fnExactRingSegsSpec)

/-- 'laws.FnExactEventsOk', WHERE WHAT IT READS IS OF BULK AT MOST 1048576: true; the input reads as it did. -/
def fnExactEventsOkUptoRow : OpenClaim := { program := "ytggfhpnflknhdaa", sum := "0353b8d5f8b2e6b4c64ccae8dd57eb1bd9b34ec1527f08c90e0c858d1ce1c674", func := "loop.example/g00225/laws.FnExactEventsOk", spec := "fnExactEventsOk", inPlace := ["math/bits.Sub64", "math/bits.Add64"], named := ["math/bits.divideError", "math/bits.overflowError"], apart := false, narrowed := true }
def FnExactEventsOkUptoSaid : Prop := fnExactEventsOkUptoRow.holds Try.pinned (OpenSpec.upto fnExactEventsOkSpec)

/-- 'laws.FnExactLoopsOk', WHERE WHAT IT READS IS OF BULK AT MOST 1048576: true; the input reads as it did. -/
def fnExactLoopsOkUptoRow : OpenClaim := { program := "ytggfhpnflknhdaa", sum := "0353b8d5f8b2e6b4c64ccae8dd57eb1bd9b34ec1527f08c90e0c858d1ce1c674", func := "loop.example/g00225/laws.FnExactLoopsOk", spec := "fnExactLoopsOk", inPlace := ["math/bits.Sub64", "math/bits.Add64"], named := ["math/bits.divideError", "math/bits.overflowError"], apart := false, narrowed := true }
def FnExactLoopsOkUptoSaid : Prop := fnExactLoopsOkUptoRow.holds Try.pinned (OpenSpec.upto fnExactLoopsOkSpec)

end Rows
end Go.Proofs.Ytggfhpnflknhdaa
