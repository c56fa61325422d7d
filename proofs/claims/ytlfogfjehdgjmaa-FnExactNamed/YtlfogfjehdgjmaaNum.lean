/- Plain arithmetic of numbers by their digits in base 2 to the 32: no program in sight. -/
namespace Go.Proofs.Ytlfogfjehdgjmaa

/-- The number that digits stand for, the lowest first. -/
def val : List Int → Int
  | [] => 0
  | d :: t => d + 4294967296 * val t
/-- Each is a digit. -/
def Dig (ds : List Int) : Prop := ∀ d ∈ ds, 0 ≤ d ∧ d < 4294967296
/-- No digit 0 at the high end. -/
def Nrm (ds : List Int) : Prop := Dig ds ∧ (ds = [] ∨ ∃ t d, ds = t ++ [d] ∧ d ≠ 0)
end Go.Proofs.Ytlfogfjehdgjmaa
