/-
  No cell of these rows narrows 'for every input' (looked for: loops, veiled, ifaces, maps, wideKeys, modest, calm, conditions, laid).
  DERIVED. THE GIVEN ROWS OF THIS SEAT. 3 by the template 'for every input the law returns true; each argument reads behind the call as it read before'; 0 by the template 'total and deterministic' (their statements: YteakhlipmmfilaaGreatTotals.lean).
  GIVEN WITH THE SEED: the statements are not yours to turn. If you find one false, say at which input.
  Laid BY PROGRAM, IN A SANDBOX (cutbox-rows.mjs): the forced cells as the released guide's own fill.sh prints them over the translation fb91a99be5127c34… (all of the seat's roots in one cut). By AI agents, Wed Nov 11 2026. No macro, syntax, notation, axiom, sorry.
-/
import Derived.Test.YteakhlipmmfilaaGreatChecked
import GoSem.Claim
import GoSem.ClaimJoined
import GoSem.ClaimMapViews
import Derived.JoinedTies
import Derived.KernelRfl
namespace Go.Proofs.YteakhlipmmfilaaGreat
/- THE CELL 'sum', in the pinned program and in every row, IS THE sha256 OF THE DUMP (.gsa) THAT YteakhlipmmfilaaGreatProg.lean LOADS. Nothing in Lean hashes anything: it is a label: what it is worth is what the hold of that sum in a sandbox is worth. -/
noncomputable def Tryz.pinned : Pinned := { name := "yteakhlipmmfilaagreat", sum := "fb91a99be5127c34bbdb8a34b49dd1f557d5bc5ae5f59d59f848c5d5dcbdb7e4", checked := Tryz.checked }
namespace Rows
def none {H : Type} : Left H := { results := [], args := [] }

/-- 'laws.FnExactLayerSegs': WHATEVER THE INPUT: true; the input reads as it did. -/
def fnExactLayerSegsSpec : ChangeSpec := { name := "fnExactLayerSegs", fn := fun _ => fun
  | [d] => { results := [.lit (.bool true)], args := [d] }
  | _ => none }
def fnExactLayerSegsRow : OpenClaim := { program := "yteakhlipmmfilaagreat", sum := "fb91a99be5127c34bbdb8a34b49dd1f557d5bc5ae5f59d59f848c5d5dcbdb7e4", func := "loop.example/g00225/laws.FnExactLayerSegs", spec := "fnExactLayerSegs", unfollowed := true, recurses := true, apart := false }
def FnExactLayerSegsSaid : Prop := fnExactLayerSegsRow.holds Tryz.pinned (OpenSpec.ofChange fnExactLayerSegsSpec)

/-- ITS FALSE NEIGHBOUR: 'it returns false'. Refute it at one input. -/
def fnExactLayerSegsWrong : ChangeSpec := { name := "fnExactLayerSegs", fn := fun _ => fun
  | [d] => { results := [.lit (.bool false)], args := [d] }
  | _ => none }
def FnExactLayerSegsWrongFalsely : Prop := fnExactLayerSegsRow.holds Tryz.pinned (OpenSpec.ofChange fnExactLayerSegsWrong)

/-- 'laws.FnQuietly': WHATEVER THE INPUT: true; the input reads as it did. -/
def fnQuietlySpec : ChangeSpec := { name := "fnQuietly", fn := fun _ => fun
  | [d] => { results := [.lit (.bool true)], args := [d] }
  | _ => none }
def fnQuietlyRow : OpenClaim := { program := "yteakhlipmmfilaagreat", sum := "fb91a99be5127c34bbdb8a34b49dd1f557d5bc5ae5f59d59f848c5d5dcbdb7e4", func := "loop.example/g00225/laws.FnQuietly", spec := "fnQuietly", unfollowed := true, recurses := true, apart := false }
def FnQuietlySaid : Prop := fnQuietlyRow.holds Tryz.pinned (OpenSpec.ofChange fnQuietlySpec)

/-- ITS FALSE NEIGHBOUR: 'it returns false'. Refute it at one input. -/
def fnQuietlyWrong : ChangeSpec := { name := "fnQuietly", fn := fun _ => fun
  | [d] => { results := [.lit (.bool false)], args := [d] }
  | _ => none }
def FnQuietlyWrongFalsely : Prop := fnQuietlyRow.holds Tryz.pinned (OpenSpec.ofChange fnQuietlyWrong)

/-- 'laws.FnLayerSides': WHATEVER THE INPUT: true; the input reads as it did. -/
def fnLayerSidesSpec : ChangeSpec := { name := "fnLayerSides", fn := fun _ => fun
  | [d] => { results := [.lit (.bool true)], args := [d] }
  | _ => none }
def fnLayerSidesRow : OpenClaim := { program := "yteakhlipmmfilaagreat", sum := "fb91a99be5127c34bbdb8a34b49dd1f557d5bc5ae5f59d59f848c5d5dcbdb7e4", func := "loop.example/g00225/laws.FnLayerSides", spec := "fnLayerSides", inPlace := ["math/bits.Sub64", "math/bits.Add64"], unfollowed := true, recurses := true, named := ["math/bits.divideError", "math/bits.overflowError"], apart := false }
def FnLayerSidesSaid : Prop := fnLayerSidesRow.holds Tryz.pinned (OpenSpec.ofChange fnLayerSidesSpec)

/-- ITS FALSE NEIGHBOUR: 'it returns false'. Refute it at one input. -/
def fnLayerSidesWrong : ChangeSpec := { name := "fnLayerSides", fn := fun _ => fun
  | [d] => { results := [.lit (.bool false)], args := [d] }
  | _ => none }
def FnLayerSidesWrongFalsely : Prop := fnLayerSidesRow.holds Tryz.pinned (OpenSpec.ofChange fnLayerSidesWrong)

/- THE SECOND FORM. 'bulk': how many values and letters a reading holds, each counted each time it is reached (what is shared counts as often as it is met; a slice's spare places count too). A statement '..UptoSaid' is the law's where the arguments, and the package variables that the reading takes, are together of bulk at most 1048576: NARROWER than '..Said'. Prove '..Said' where nothing that the law and all that it calls make is longer than what came in: it says more and counts as full. Else prove '..UptoSaid'. A law counts once. -/
mutual
def uptoBulk {H : Type} : DataW H → Nat
  | .lit (.string bytes) => bytes.length + 1
  | .lit _ => 1
  | .nil => 1
  | .ptr d => uptoBulk d + 1
  | .slice elems spare => uptoBulkAll elems + uptoBulkAll spare + 1
  | .agg parts => uptoBulkAll parts + 1
  | .iface _ d => uptoBulk d + 1
  | .map entries => uptoBulkEntries entries + 1
  | .held _ => 1
def uptoBulkAll {H : Type} : List (DataW H) → Nat
  | [] => 0
  | d :: r => uptoBulk d + uptoBulkAll r
def uptoBulkEntries {H : Type} : List (Lit × DataW H) → Nat
  | [] => 0
  | x :: r => uptoBulkEntry x + uptoBulkEntries r
def uptoBulkEntry {H : Type} : Lit × DataW H → Nat
  | (.string bytes, d) => bytes.length + uptoBulk d + 1
  | (_, d) => uptoBulk d + 1
 end
def uptoSmall : (H : Type) → List (DataW H) → Bool := fun _ ds => decide (uptoBulkAll ds ≤ 1048576)
def OpenSpec.upto (s : _root_.Go.ChangeSpec) : _root_.Go.OpenSpec := { _root_.Go.OpenSpec.ofChange s with cond := some uptoSmall }

/-- 'laws.FnExactLayerSegs', WHERE WHAT IT READS IS OF BULK AT MOST 1048576: true; the input reads as it did. -/
def fnExactLayerSegsUptoRow : OpenClaim := { program := "yteakhlipmmfilaagreat", sum := "fb91a99be5127c34bbdb8a34b49dd1f557d5bc5ae5f59d59f848c5d5dcbdb7e4", func := "loop.example/g00225/laws.FnExactLayerSegs", spec := "fnExactLayerSegs", unfollowed := true, recurses := true, apart := false, narrowed := true }
def FnExactLayerSegsUptoSaid : Prop := fnExactLayerSegsUptoRow.holds Tryz.pinned (OpenSpec.upto fnExactLayerSegsSpec)

/-- 'laws.FnQuietly', WHERE WHAT IT READS IS OF BULK AT MOST 1048576: true; the input reads as it did. -/
def fnQuietlyUptoRow : OpenClaim := { program := "yteakhlipmmfilaagreat", sum := "fb91a99be5127c34bbdb8a34b49dd1f557d5bc5ae5f59d59f848c5d5dcbdb7e4", func := "loop.example/g00225/laws.FnQuietly", spec := "fnQuietly", unfollowed := true, recurses := true, apart := false, narrowed := true }
def FnQuietlyUptoSaid : Prop := fnQuietlyUptoRow.holds Tryz.pinned (OpenSpec.upto fnQuietlySpec)

/-- 'laws.FnLayerSides', WHERE WHAT IT READS IS OF BULK AT MOST 1048576: true; the input reads as it did. -/
def fnLayerSidesUptoRow : OpenClaim := { program := "yteakhlipmmfilaagreat", sum := "fb91a99be5127c34bbdb8a34b49dd1f557d5bc5ae5f59d59f848c5d5dcbdb7e4", func := "loop.example/g00225/laws.FnLayerSides", spec := "fnLayerSides", inPlace := ["math/bits.Sub64", "math/bits.Add64"], unfollowed := true, recurses := true, named := ["math/bits.divideError", "math/bits.overflowError"], apart := false, narrowed := true }
def FnLayerSidesUptoSaid : Prop := fnLayerSidesUptoRow.holds Tryz.pinned (OpenSpec.upto fnLayerSidesSpec)

end Rows
end Go.Proofs.YteakhlipmmfilaaGreat
