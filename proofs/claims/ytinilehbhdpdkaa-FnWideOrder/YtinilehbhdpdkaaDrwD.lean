/- Two numbers drawn from a code: the walks. -/
import Derived.Test.YtinilehbhdpdkaaDrwW
namespace Go.Proofs.Ytinilehbhdpdkaa
open Go.RowKit
/-- The code as it lies: so many bytes. -/
structure Code (w : World) (ao : Option Addr) (n : Nat) (cs : List Int) : Prop where
  bytes : ∀ i, (h : i < cs.length) → ∃ b off, ao = some ⟨b, off, none⟩ ∧ b < w.heap.size ∧ w.cell? ⟨b, off + i, none⟩ = some (.int .u8 cs[i])
  len : cs.length = n
  small : n ≤ 1048576
  byte : ∀ c ∈ cs, 0 ≤ c ∧ c < 256
theorem Code.below {w w' : World} {ao : Option Addr} {n : Nat} {cs : List Int} (h : Code w ao n cs) (hB : Below w.heap.size w w') : Code w' ao n cs := by
  refine ⟨fun i hi => ?_, h.len, h.small, h.byte⟩
  obtain ⟨b, off, e, hb, hc⟩ := h.bytes i hi
  exact ⟨b, off, e, Nat.lt_of_lt_of_le hb hB.size, (hB.cell (p := ⟨b, off + i, none⟩) hb).trans hc⟩
def OpenP (ao : Option Addr) (n cap : Nat) (cs : List Int) (w : World) (e : Ending) (w' : World) : Prop := ∃ G, e = .returned (.pointer (some ⟨G, 0, none⟩)) ∧ w.heap.size ≤ G ∧ Rdr w' G ao n cap cs ∧ Below w.heap.size w w'
theorem open_any (ao : Option Addr) (n cap : Nat) (cs : List Int) (w : World) (h : Code w ao n cs) :
    Calls Try.prog 17 #[.slice ao n cap] w (OpenP ao n cap cs w) := by
  go_enter Try.func17, Try.ntmps17
  go_wp2
  go_ret
  refine ⟨w.heap.size, rfl, Nat.le_refl _, ⟨⟨0, Nat.zero_le _, Blk.new w [.slice ao n cap, .int .i64 0] 58 rfl⟩, fun i hi => ?_, h.len, h.small, h.byte⟩, (Below.refl _ _).alloc (Nat.le_refl _) _⟩
  obtain ⟨b, off, e, hb, hc⟩ := h.bytes i hi
  exact ⟨b, off, e, hb, cell_alloc hb hc⟩
/-- Two numbers of four words. -/
def TwoP (w : World) (e : Ending) (w' : World) : Prop := ∃ a3 a2 a1 a0 b3 b2 b1 b0 : Int, e = .returned (.tuple #[.agg #[.int .u64 a3, .int .u64 a2, .int .u64 a1, .int .u64 a0], .agg #[.int .u64 b3, .int .u64 b2, .int .u64 b1, .int .u64 b0]]) ∧ (Word a3 ∧ Word a2 ∧ Word a1 ∧ Word a0) ∧ (Word b3 ∧ Word b2 ∧ Word b1 ∧ Word b0) ∧ Below w.heap.size w w'
theorem two_done {w W : World} {v0 v1 v2 v3 u0 u1 u2 u3 : Value} (hB : Below w.heap.size w W) : Below w.heap.size w ((((((((W.setCell ⟨w.heap.size, 0, none⟩ v0).setCell ⟨w.heap.size, 1, none⟩ v1).setCell ⟨w.heap.size, 2, none⟩ v2).setCell ⟨w.heap.size, 3, none⟩ v3).setCell ⟨w.heap.size + 1, 0, none⟩ u0).setCell ⟨w.heap.size + 1, 1, none⟩ u1).setCell ⟨w.heap.size + 1, 2, none⟩ u2).setCell ⟨w.heap.size + 1, 3, none⟩ u3) :=
  ((((((((hB.setCell (p := ⟨w.heap.size, 0, none⟩) (Nat.le_refl _) _).setCell (p := ⟨w.heap.size, 1, none⟩) (Nat.le_refl _) _).setCell (p := ⟨w.heap.size, 2, none⟩) (Nat.le_refl _) _).setCell (p := ⟨w.heap.size, 3, none⟩) (Nat.le_refl _) _).setCell (p := ⟨w.heap.size + 1, 0, none⟩) (Nat.le_succ _) _).setCell (p := ⟨w.heap.size + 1, 1, none⟩) (Nat.le_succ _) _).setCell (p := ⟨w.heap.size + 1, 2, none⟩) (Nat.le_succ _) _).setCell (p := ⟨w.heap.size + 1, 3, none⟩) (Nat.le_succ _) _)
set_option maxRecDepth 100000 in
set_option maxHeartbeats 2000000 in
theorem drawAdd_any (ao : Option Addr) (n cap : Nat) (cs : List Int) (w : World) (h : Code w ao n cs) :
    Calls Try.prog 13 #[.slice ao n cap] w (TwoP w) := by
  have A := (Blk.new w [.int .u64 0, .int .u64 0, .int .u64 0, .int .u64 0] 26 rfl).alloc (.cells #[.int .u64 0, .int .u64 0, .int .u64 0, .int .u64 0] 26)
  have B := Blk.new (w.alloc (.cells #[.int .u64 0, .int .u64 0, .int .u64 0, .int .u64 0] 26)) [.int .u64 0, .int .u64 0, .int .u64 0, .int .u64 0] 26 (g := w.heap.size + 1) (by simp)
  have HB : Below w.heap.size w ((w.alloc (.cells #[.int .u64 0, .int .u64 0, .int .u64 0, .int .u64 0] 26)).alloc (.cells #[.int .u64 0, .int .u64 0, .int .u64 0, .int .u64 0] 26)) := ((Below.refl _ _).alloc (Nat.le_refl _) _).alloc (by simp) _
  replace h := h.below HB
  go_enter Try.func13, Try.ntmps13
  go_wp2_with fail
  refine (open_any ao n cap cs _ h).mono ?_
  rintro e w1 ⟨G, rfl, hG, R, hB⟩
  simp at hG
  have hA : w.heap.size ≠ G := by omega
  have hA' : w.heap.size + 1 ≠ G := by omega
  replace A := A.step hB
  replace B := B.step hB
  replace HB : Below w.heap.size w w1 := HB.trans (hB.mono HB.size)
  have K := Kept.refl G w1
  have hl := HB.size
  clear h hB
  go_wp2_with fail
  refine (wide_any G ao n cap cs _ R).mono ?_
  rintro e w2 ⟨_, rfl, ⟨a3, a2, a1, a0, rfl, g⟩, R1, K1⟩
  replace A := A.kept K1 hA
  replace B := B.kept K1 hA'
  replace K := K.trans K1
  clear R K1
  have R := R1
  clear R1
  go_wp2_with fail
  refine (wide_any G ao n cap cs _ R).mono ?_
  rintro e w3 ⟨_, rfl, ⟨b3, b2, b1, b0, rfl, f⟩, R1, K1⟩
  replace A := A.kept K1 hA
  replace B := B.kept K1 hA'
  replace K := K.trans K1
  clear R K1
  have R := R1
  clear R1
  replace HB : Below w.heap.size w w3 := HB.trans (K.below (by omega) hl)
  have pc0 := A.c 0 rfl; have pf0 := A.f 0 rfl; have pc1 := A.c 1 rfl; have pf1 := A.f 1 rfl; have pc2 := A.c 2 rfl; have pf2 := A.f 2 rfl; have pc3 := A.c 3 rfl; have pf3 := A.f 3 rfl; have pl := A.lt; have qc0 := B.c 0 rfl; have qf0 := B.f 0 rfl; have qc1 := B.c 1 rfl; have qf1 := B.f 1 rfl; have qc2 := B.c 2 rfl; have qf2 := B.f 2 rfl; have qc3 := B.c 3 rfl; have qf3 := B.f 3 rfl; have ql := B.lt
  clear A B
  go_wp2
  refine bodyPost_ret (v := .tuple #[.agg #[.int .u64 a3, .int .u64 a2, .int .u64 a1, .int .u64 a0], .agg #[.int .u64 b3, .int .u64 b2, .int .u64 b1, .int .u64 b0]]) (by simp [results, Try.results13, go_sem, pc0, qc0, pc1, qc1, pc2, qc2, pc3, qc3]) rfl ?_
  exact ⟨a3, a2, a1, a0, b3, b2, b1, b0, rfl, g, f, two_done HB⟩
set_option maxRecDepth 100000 in
set_option maxHeartbeats 2000000 in
theorem drawMul_any (ao : Option Addr) (n cap : Nat) (cs : List Int) (w : World) (h : Code w ao n cs) :
    Calls Try.prog 6 #[.slice ao n cap] w (TwoP w) := by
  have A := (Blk.new w [.int .u64 0, .int .u64 0, .int .u64 0, .int .u64 0] 26 rfl).alloc (.cells #[.int .u64 0, .int .u64 0, .int .u64 0, .int .u64 0] 26)
  have B := Blk.new (w.alloc (.cells #[.int .u64 0, .int .u64 0, .int .u64 0, .int .u64 0] 26)) [.int .u64 0, .int .u64 0, .int .u64 0, .int .u64 0] 26 (g := w.heap.size + 1) (by simp)
  have HB : Below w.heap.size w ((w.alloc (.cells #[.int .u64 0, .int .u64 0, .int .u64 0, .int .u64 0] 26)).alloc (.cells #[.int .u64 0, .int .u64 0, .int .u64 0, .int .u64 0] 26)) := ((Below.refl _ _).alloc (Nat.le_refl _) _).alloc (by simp) _
  replace h := h.below HB
  go_enter Try.func6, Try.ntmps6
  go_wp2_with fail
  refine (open_any ao n cap cs _ h).mono ?_
  rintro e w1 ⟨G, rfl, hG, R, hB⟩
  simp at hG
  have hA : w.heap.size ≠ G := by omega
  have hA' : w.heap.size + 1 ≠ G := by omega
  replace A := A.step hB
  replace B := B.step hB
  replace HB : Below w.heap.size w w1 := HB.trans (hB.mono HB.size)
  have K := Kept.refl G w1
  have hl := HB.size
  clear h hB
  go_wp2_with fail
  refine (wide_any G ao n cap cs _ R).mono ?_
  rintro e w2 ⟨_, rfl, ⟨a3, a2, a1, a0, rfl, g⟩, R1, K1⟩
  replace A := A.kept K1 hA
  replace B := B.kept K1 hA'
  replace K := K.trans K1
  clear R K1
  have R := R1
  clear R1
  go_wp2_with fail
  refine (wide_any G ao n cap cs _ R).mono ?_
  rintro e w3 ⟨_, rfl, ⟨b3, b2, b1, b0, rfl, f⟩, R1, K1⟩
  replace A := A.kept K1 hA
  replace B := B.kept K1 hA'
  replace K := K.trans K1
  clear R K1
  have R := R1
  clear R1
  replace HB : Below w.heap.size w w3 := HB.trans (K.below (by omega) hl)
  have pc0 := A.c 0 rfl; have pf0 := A.f 0 rfl; have pc1 := A.c 1 rfl; have pf1 := A.f 1 rfl; have pc2 := A.c 2 rfl; have pf2 := A.f 2 rfl; have pc3 := A.c 3 rfl; have pf3 := A.f 3 rfl; have pl := A.lt; have qc0 := B.c 0 rfl; have qf0 := B.f 0 rfl; have qc1 := B.c 1 rfl; have qf1 := B.f 1 rfl; have qc2 := B.c 2 rfl; have qf2 := B.f 2 rfl; have qc3 := B.c 3 rfl; have qf3 := B.f 3 rfl; have ql := B.lt
  clear A B
  go_wp2
  refine bodyPost_ret (v := .tuple #[.agg #[.int .u64 a3, .int .u64 a2, .int .u64 a1, .int .u64 a0], .agg #[.int .u64 b3, .int .u64 b2, .int .u64 b1, .int .u64 b0]]) (by simp [results, Try.results6, go_sem, pc0, qc0, pc1, qc1, pc2, qc2, pc3, qc3]) rfl ?_
  exact ⟨a3, a2, a1, a0, b3, b2, b1, b0, rfl, g, f, two_done HB⟩
end Go.Proofs.Ytinilehbhdpdkaa
