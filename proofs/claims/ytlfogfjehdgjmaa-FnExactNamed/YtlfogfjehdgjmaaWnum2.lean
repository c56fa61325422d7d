/- Plain arithmetic: four words out of digits. No program in sight. -/
import Derived.Test.YtlfogfjehdgjmaaWnum
namespace Go.Proofs.Ytlfogfjehdgjmaa
/-- The words of a number that is told; zeros for any other one. -/
def told (z : Int) : Bool := decide (-57896044618658097711785492504343953926634992332820282019728792003956564819968 ≤ z ∧ z < 57896044618658097711785492504343953926634992332820282019728792003956564819968)
end Go.Proofs.Ytlfogfjehdgjmaa
