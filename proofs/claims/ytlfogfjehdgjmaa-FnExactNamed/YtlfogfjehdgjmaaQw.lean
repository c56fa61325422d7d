/- A region that draws its order and only reads, walked once, with what is left behind a letter: nothing can be laid open ahead of its time. -/
import Derived.Test.YtlfogfjehdgjmaaWw
import Derived.Deep.QuietTactic
namespace Go.Proofs.Ytlfogfjehdgjmaa
open Go.RowKit
def QwNil (W : List Oper → Act → Prop) (Q : Exit → Act → World → Prop) (w : World) : Prop := ∀ a, (∀ n, Q .normal a (w.drewN n)) → W [] a
def QwStep (W : List Oper → Act → Prop) (P : Program) (l : List Oper) (w : World) : Prop :=
  ∀ o rest a, (∀ K : Act → Prop, (∀ a, W rest a → K a) → if Region.wanted o (yielded l.toArray a.tmps) then o.quiet P a (fun w' => ∃ n, w' = w.drewN n) K else K (a.put o.dst undef)) → W (o :: rest) a
theorem wp_region_qw {P : Program} {id : Nat} {Q : Exit → Act → World → Prop} {a : Act} {w : World} {l : List Oper} (hm : P.follows .mixedOrders = true) (hB : Region.lexB .any l.toArray = true)
    (h : ∀ W : List Oper → Act → Prop, QwNil W Q w → QwStep W P l w → W l a) : (Code.region id l.toArray true).wp P Q a w :=
  wp_region_quiet_lit hm hB (h (wpQuiet P l.toArray (fun w' => ∃ n, w' = w.drewN n) (fun a' => ∀ w', (∃ n, w' = w.drewN n) → Q .normal a' w'))
    (fun _ h => wpQuiet_nil (fun _ ⟨n, hn⟩ => hn ▸ h n)) (fun _ _ _ h => wpQuiet_step h))
end Go.Proofs.Ytlfogfjehdgjmaa
