/- Two numbers drawn for a quotient: the walk. -/
import Derived.Test.YtllfpnnngdphfaaBase3
namespace Go.Proofs.Ytllfpnnngdphfaa
open Go.RowKit
set_option maxRecDepth 100000 in
set_option maxHeartbeats 2000000 in
theorem drawDiv_any (ao : Option Addr) (n cap : Nat) (cs : List Int) (w : World) (h : Code w ao n cs) :
    Calls Try.prog 13 #[.slice ao n cap] w (TwoP w) := by
  have A := (Blk.new w [.int .u64 0, .int .u64 0, .int .u64 0, .int .u64 0] 26 rfl).alloc (.cells #[.int .u64 0, .int .u64 0, .int .u64 0, .int .u64 0] 26)
  have B := Blk.new (w.alloc (.cells #[.int .u64 0, .int .u64 0, .int .u64 0, .int .u64 0] 26)) [.int .u64 0, .int .u64 0, .int .u64 0, .int .u64 0] 26 (g := w.heap.size + 1) (by simp)
  have HB : Below w.heap.size w ((w.alloc (.cells #[.int .u64 0, .int .u64 0, .int .u64 0, .int .u64 0] 26)).alloc (.cells #[.int .u64 0, .int .u64 0, .int .u64 0, .int .u64 0] 26)) := ((Below.refl _ _).alloc (Nat.le_refl _) _).alloc (by simp) _
  replace h := h.below HB
  go_enter Try.func13, Try.ntmps13
  go_wp2_with fail
  refine (open_any ao n cap cs _ h).mono ?_
  rintro e w1 ⟨G, rfl, hG, R, hB⟩
  simp at hG
  have hA : w.heap.size ≠ G := by omega
  have hA' : w.heap.size + 1 ≠ G := by omega
  replace A := A.step hB
  replace B := B.step hB
  replace HB : Below w.heap.size w w1 := HB.trans (hB.mono HB.size)
  have K := Kept.refl G w1
  have hl := HB.size
  clear h hB
  go_wp2_with fail
  refine (wide_any G ao n cap cs _ R).mono ?_
  rintro e w2 ⟨_, rfl, ⟨a3, a2, a1, a0, rfl, g⟩, R1, K1⟩
  replace A := A.kept K1 hA
  replace B := B.kept K1 hA'
  replace K := K.trans K1
  clear R K1
  have R := R1
  clear R1
  go_wp2_with fail
  refine (wide_any G ao n cap cs _ R).mono ?_
  rintro e w3 ⟨_, rfl, ⟨b3, b2, b1, b0, rfl, f⟩, R1, K1⟩
  replace A := A.kept K1 hA
  replace B := B.kept K1 hA'
  replace K := K.trans K1
  clear R K1
  have R := R1
  clear R1
  replace HB : Below w.heap.size w w3 := HB.trans (K.below (by omega) hl)
  have pc0 := A.c 0 rfl; have pf0 := A.f 0 rfl; have pc1 := A.c 1 rfl; have pf1 := A.f 1 rfl; have pc2 := A.c 2 rfl; have pf2 := A.f 2 rfl; have pc3 := A.c 3 rfl; have pf3 := A.f 3 rfl; have pl := A.lt; have qc0 := B.c 0 rfl; have qf0 := B.f 0 rfl; have qc1 := B.c 1 rfl; have qf1 := B.f 1 rfl; have qc2 := B.c 2 rfl; have qf2 := B.f 2 rfl; have qc3 := B.c 3 rfl; have qf3 := B.f 3 rfl; have ql := B.lt
  clear A B
  go_wp2
  refine bodyPost_ret (v := .tuple #[.agg #[.int .u64 a3, .int .u64 a2, .int .u64 a1, .int .u64 a0], .agg #[.int .u64 b3, .int .u64 b2, .int .u64 b1, .int .u64 b0]]) (by simp [results, Try.results13, go_sem, pc0, qc0, pc1, qc1, pc2, qc2, pc3, qc3]) rfl ?_
  exact ⟨a3, a2, a1, a0, b3, b2, b1, b0, rfl, g, f, two_done HB⟩
end Go.Proofs.Ytllfpnnngdphfaa
