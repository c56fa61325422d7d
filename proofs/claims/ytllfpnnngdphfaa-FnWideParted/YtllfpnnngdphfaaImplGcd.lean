/- The walk of the program's common divisor of two numbers of four words. -/
import Derived.Test.YtllfpnnngdphfaaDivG
import Derived.Test.YtllfpnnngdphfaaBase4
import Derived.Test.YtllfpnnngdphfaaBase6
namespace Go.Proofs.Ytllfpnnngdphfaa
open Go.RowKit
theorem sl_fill (a3 a2 a1 a0 : Int) : sl a0 a1 a2 a3 (fillW a3) (fillW a3) (fillW a3) (fillW a3) = sw a3 a2 a1 a0 := by
  unfold sl fillW sw uw
  simp only [val64]
  by_cases p : a3 < 9223372036854775808
  · simp only [if_pos p]
    rw [if_pos (by decide)]
    omega
  · simp only [if_neg p]
    rw [if_neg (by decide)]
    omega
theorem words_fill {a3 a2 a1 a0 : Int} (h3 : Word a3) (h2 : Word a2) (h1 : Word a1) (h0 : Word a0) : Words [a0, a1, a2, a3, fillW a3, fillW a3, fillW a3, fillW a3] := by
  have hf : Word (fillW a3) := by unfold fillW; split <;> exact ⟨by decide, by decide⟩
  exact words_cons.2 ⟨h0, words_cons.2 ⟨h1, words_cons.2 ⟨h2, words_cons.2 ⟨h3, words_cons.2 ⟨hf, words_cons.2 ⟨hf, words_cons.2 ⟨hf, words_cons.2 ⟨hf, words_nil⟩⟩⟩⟩⟩⟩⟩⟩
end Go.Proofs.Ytllfpnnngdphfaa
