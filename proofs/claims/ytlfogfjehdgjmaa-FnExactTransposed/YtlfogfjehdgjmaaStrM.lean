/- The law of Transposed. -/
import Derived.Test.YtlfogfjehdgjmaaStrC
namespace Go.Proofs.Ytlfogfjehdgjmaa
open Go.RowKit
set_option maxRecDepth 100000 in
set_option maxHeartbeats 1000000 in
theorem lawTransposed_any (s : ByteArray) (w : World) : Calls Try.prog 8 #[.string s] w (VP (.bool true) w) := by
  have C1 := specTransposed_any s
  have C2 := implTransposed_any s
  revert C1 C2
  generalize trS s = b
  intro C1 C2
  go_enter Try.func8, Try.ntmps8
  by_cases hs : (1048576 : Int) < s.size
  · clear C1 C2
    go_wp2
    go_ret
    exact ⟨rfl, Below.refl _ _⟩
  · go_wp2_with fail
    refine (C1 _).mono ?_
    rintro e w1 ⟨rfl, hB⟩
    clear C1
    go_wp2_with fail
    refine (C2 _).mono ?_
    rintro e w2 ⟨rfl, hB2⟩
    clear C2
    replace hB := hB.trans (hB2.mono hB.size)
    clear hB2
    go_wp2
    go_ret
    exact ⟨rfl, hB⟩
end Go.Proofs.Ytlfogfjehdgjmaa
