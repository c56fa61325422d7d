/- A tree without items: the law. -/
import Derived.Test.YtofjlobbohfacaaQnD
namespace Go.Proofs.Ytofjlobbohfacaa
open Go.RowKit
set_option maxRecDepth 100000 in
set_option maxHeartbeats 8000000 in
theorem lawQuadNew_yes (m d : Int) (hl : limB m d = true) (w : World) : Calls Try.prog 5 #[.int .i64 m, .int .i64 d] w (BoolP true w) := by
  go_enter Try.func5, Try.ntmps5
  have HB : Below w.heap.size w w := Below.refl _ _
  have SY := specQuadNew_yes m d hl
  have IY := implQuadNew_yes m d hl
  go_wp2_with fail
  refine (SY _).mono ?_
  rintro e w1 ⟨h1, rfl, l1, K1, hB⟩
  replace HB := HB.trans (hB.mono HB.size)
  clear hB
  have A1 := Blk.new w1 [.int .i64 m, .int .i64 d, .slice none 0 0, .slice (some ⟨h1, 0, none⟩) 1 1] 48 rfl
  have hk1 := K1.lt
  replace K1 := K1.alloc (.cells #[.int .i64 m, .int .i64 d, .slice none 0 0, .slice (some ⟨h1, 0, none⟩) 1 1] 48)
  have hs1 := HB.size
  replace HB := HB.alloc HB.size (.cells #[.int .i64 m, .int .i64 d, .slice none 0 0, .slice (some ⟨h1, 0, none⟩) 1 1] 48)
  have hz1 : (w1.alloc (.cells #[.int .i64 m, .int .i64 d, .slice none 0 0, .slice (some ⟨h1, 0, none⟩) 1 1] 48)).heap.size = w1.heap.size + 1 := by simp
  go_wp2_with fail
  refine (IY _).mono ?_
  rintro e w2 ⟨h2, rfl, l2, K2, hB⟩
  replace HB := HB.trans (hB.mono HB.size); replace K1 := K1.step hB; replace A1 := A1.step hB
  clear hB
  have A2 := Blk.new w2 [.int .i64 m, .int .i64 d, .slice none 0 0, .slice (some ⟨h2, 0, none⟩) 1 1] 48 rfl
  have hk2 := K2.lt
  replace K1 := K1.alloc (.cells #[.int .i64 m, .int .i64 d, .slice none 0 0, .slice (some ⟨h2, 0, none⟩) 1 1] 48)
  replace A1 := A1.alloc (.cells #[.int .i64 m, .int .i64 d, .slice none 0 0, .slice (some ⟨h2, 0, none⟩) 1 1] 48)
  replace K2 := K2.alloc (.cells #[.int .i64 m, .int .i64 d, .slice none 0 0, .slice (some ⟨h2, 0, none⟩) 1 1] 48)
  have hs2 := HB.size
  replace HB := HB.alloc HB.size (.cells #[.int .i64 m, .int .i64 d, .slice none 0 0, .slice (some ⟨h2, 0, none⟩) 1 1] 48)
  have hz2 : (w2.alloc (.cells #[.int .i64 m, .int .i64 d, .slice none 0 0, .slice (some ⟨h2, 0, none⟩) 1 1] 48)).heap.size = w2.heap.size + 1 := by simp
  have a0 := A2.c 0 rfl; have a1 := A2.c 1 rfl; have a2 := A2.c 2 rfl; have a3 := A2.c 3 rfl; have b0 := A1.c 0 rfl; have b1 := A1.c 1 rfl; have b2 := A1.c 2 rfl; have b3 := A1.c 3 rfl
  go_wp2_with fail
  generalize w2.alloc (.cells #[.int .i64 m, .int .i64 d, .slice none 0 0, .slice (some ⟨h2, 0, none⟩) 1 1] 48) = W2 at *
  refine (eqQuad_yes m d h2 h1 _ K2 K1).mono ?_
  rintro e u2 ⟨rfl, hB⟩
  have hw2 := hB.size
  replace HB := HB.trans (hB.mono HB.size); replace K1 := K1.step hB; replace A1 := A1.step hB; replace K2 := K2.step hB; replace A2 := A2.step hB
  clear hB a0 a1 a2 a3 b0 b1 b2 b3
  have a0 := A2.c 0 rfl; have a1 := A2.c 1 rfl; have a2 := A2.c 2 rfl; have a3 := A2.c 3 rfl
  go_wp2_with fail
  refine (markQuad_yes m d h2 _ K2).mono ?_
  rintro e v1 ⟨rfl, KM, KP⟩
  replace HB := KP.2 w (by omega) HB
  replace K1 := KP.1 h1 _ (by omega) K1
  replace A1 := KP.1 _ _ (by omega) A1
  replace A2 := KP.1 _ _ (by omega) A2
  clear K2 KP
  clear a0 a1 a2 a3
  have a0 := A2.c 0 rfl; have a1 := A2.c 1 rfl; have a2 := A2.c 2 rfl; have a3 := A2.c 3 rfl
  go_wp2_with fail
  refine (heldQuad_yes m d h2 _ KM).mono ?_
  rintro e v2 ⟨rfl, hB⟩
  replace HB := HB.trans (hB.mono HB.size); replace K1 := K1.step hB; replace A1 := A1.step hB; replace KM := KM.step hB; replace A2 := A2.step hB
  clear hB a0 a1 a2 a3
  go_wp2_with fail
  refine (IY _).mono ?_
  rintro e w3 ⟨h3, rfl, l3, K3, hB⟩
  replace HB := HB.trans (hB.mono HB.size); replace K1 := K1.step hB; replace A1 := A1.step hB; replace KM := KM.step hB; replace A2 := A2.step hB
  clear hB
  have A3 := Blk.new w3 [.int .i64 m, .int .i64 d, .slice none 0 0, .slice (some ⟨h3, 0, none⟩) 1 1] 48 rfl
  have hk3 := K3.lt
  replace K1 := K1.alloc (.cells #[.int .i64 m, .int .i64 d, .slice none 0 0, .slice (some ⟨h3, 0, none⟩) 1 1] 48)
  replace A1 := A1.alloc (.cells #[.int .i64 m, .int .i64 d, .slice none 0 0, .slice (some ⟨h3, 0, none⟩) 1 1] 48)
  replace KM := KM.alloc (.cells #[.int .i64 m, .int .i64 d, .slice none 0 0, .slice (some ⟨h3, 0, none⟩) 1 1] 48)
  replace A2 := A2.alloc (.cells #[.int .i64 m, .int .i64 d, .slice none 0 0, .slice (some ⟨h3, 0, none⟩) 1 1] 48)
  replace K3 := K3.alloc (.cells #[.int .i64 m, .int .i64 d, .slice none 0 0, .slice (some ⟨h3, 0, none⟩) 1 1] 48)
  have hs3 := HB.size
  replace HB := HB.alloc HB.size (.cells #[.int .i64 m, .int .i64 d, .slice none 0 0, .slice (some ⟨h3, 0, none⟩) 1 1] 48)
  have hz3 : (w3.alloc (.cells #[.int .i64 m, .int .i64 d, .slice none 0 0, .slice (some ⟨h3, 0, none⟩) 1 1] 48)).heap.size = w3.heap.size + 1 := by simp
  have a0 := A3.c 0 rfl; have a1 := A3.c 1 rfl; have a2 := A3.c 2 rfl; have a3 := A3.c 3 rfl; have b0 := A1.c 0 rfl; have b1 := A1.c 1 rfl; have b2 := A1.c 2 rfl; have b3 := A1.c 3 rfl
  go_wp2_with fail
  generalize w3.alloc (.cells #[.int .i64 m, .int .i64 d, .slice none 0 0, .slice (some ⟨h3, 0, none⟩) 1 1] 48) = W3 at *
  refine (eqQuad_yes m d h3 h1 _ K3 K1).mono ?_
  rintro e u3 ⟨rfl, hB⟩
  have hw3 := hB.size
  replace HB := HB.trans (hB.mono HB.size); replace K1 := K1.step hB; replace A1 := A1.step hB; replace KM := KM.step hB; replace A2 := A2.step hB; replace K3 := K3.step hB; replace A3 := A3.step hB
  clear hB a0 a1 a2 a3 b0 b1 b2 b3
  have a0 := A2.c 0 rfl; have a1 := A2.c 1 rfl; have a2 := A2.c 2 rfl; have a3 := A2.c 3 rfl
  go_wp2_with fail
  refine (heldQuad_yes m d h2 _ KM).mono ?_
  rintro e v3 ⟨rfl, hB⟩
  replace HB := HB.trans (hB.mono HB.size); replace K1 := K1.step hB; replace A1 := A1.step hB; replace KM := KM.step hB; replace A2 := A2.step hB; replace K3 := K3.step hB; replace A3 := A3.step hB
  clear hB a0 a1 a2 a3
  clear K1 A1 KM A2 K3 A3
  go_wp2
  go_ret
  exact ⟨rfl, HB⟩
set_option maxRecDepth 100000 in
set_option maxHeartbeats 8000000 in
theorem lawQuadNew_no (m d : Int) (hl : limB m d = false) (w : World) : Calls Try.prog 5 #[.int .i64 m, .int .i64 d] w (BoolP true w) := by
  go_enter Try.func5, Try.ntmps5
  have HB : Below w.heap.size w w := Below.refl _ _
  have SY := specQuadNew_no m d hl
  have IY := implQuadNew_no m d hl
  go_wp2_with fail
  refine (SY _).mono ?_
  rintro e w1 ⟨rfl, hB⟩
  replace HB := HB.trans (hB.mono HB.size)
  clear hB
  have A1 := Blk.new w1 [.int .i64 0, .int .i64 0, .slice none 0 0, .slice none 0 0] 48 rfl
  have hs1 := HB.size
  replace HB := HB.alloc HB.size (.cells #[.int .i64 0, .int .i64 0, .slice none 0 0, .slice none 0 0] 48)
  have hz1 : (w1.alloc (.cells #[.int .i64 0, .int .i64 0, .slice none 0 0, .slice none 0 0] 48)).heap.size = w1.heap.size + 1 := by simp
  go_wp2_with fail
  refine (IY _).mono ?_
  rintro e w2 ⟨rfl, hB⟩
  replace HB := HB.trans (hB.mono HB.size); replace A1 := A1.step hB
  clear hB
  have A2 := Blk.new w2 [.int .i64 0, .int .i64 0, .slice none 0 0, .slice none 0 0] 48 rfl
  replace A1 := A1.alloc (.cells #[.int .i64 0, .int .i64 0, .slice none 0 0, .slice none 0 0] 48)
  have hs2 := HB.size
  replace HB := HB.alloc HB.size (.cells #[.int .i64 0, .int .i64 0, .slice none 0 0, .slice none 0 0] 48)
  have hz2 : (w2.alloc (.cells #[.int .i64 0, .int .i64 0, .slice none 0 0, .slice none 0 0] 48)).heap.size = w2.heap.size + 1 := by simp
  have a0 := A2.c 0 rfl; have a1 := A2.c 1 rfl; have a2 := A2.c 2 rfl; have a3 := A2.c 3 rfl; have b0 := A1.c 0 rfl; have b1 := A1.c 1 rfl; have b2 := A1.c 2 rfl; have b3 := A1.c 3 rfl
  go_wp2_with fail
  generalize w2.alloc (.cells #[.int .i64 0, .int .i64 0, .slice none 0 0, .slice none 0 0] 48) = W2 at *
  refine (eqQuad_no _).mono ?_
  rintro e u2 ⟨rfl, hB⟩
  have hw2 := hB.size
  replace HB := HB.trans (hB.mono HB.size); replace A1 := A1.step hB; replace A2 := A2.step hB
  clear hB a0 a1 a2 a3 b0 b1 b2 b3
  have a0 := A2.c 0 rfl; have a1 := A2.c 1 rfl; have a2 := A2.c 2 rfl; have a3 := A2.c 3 rfl
  go_wp2_with fail
  refine (markQuad_no _).mono ?_
  rintro e v1 ⟨rfl, hB⟩
  replace HB := HB.trans (hB.mono HB.size); replace A1 := A1.step hB; replace A2 := A2.step hB
  clear hB
  clear a0 a1 a2 a3
  have a0 := A2.c 0 rfl; have a1 := A2.c 1 rfl; have a2 := A2.c 2 rfl; have a3 := A2.c 3 rfl
  go_wp2_with fail
  refine (heldQuad_no _).mono ?_
  rintro e v2 ⟨rfl, hB⟩
  replace HB := HB.trans (hB.mono HB.size); replace A1 := A1.step hB; replace A2 := A2.step hB
  clear hB a0 a1 a2 a3
  go_wp2_with fail
  refine (IY _).mono ?_
  rintro e w3 ⟨rfl, hB⟩
  replace HB := HB.trans (hB.mono HB.size); replace A1 := A1.step hB; replace A2 := A2.step hB
  clear hB
  have A3 := Blk.new w3 [.int .i64 0, .int .i64 0, .slice none 0 0, .slice none 0 0] 48 rfl
  replace A1 := A1.alloc (.cells #[.int .i64 0, .int .i64 0, .slice none 0 0, .slice none 0 0] 48)
  replace A2 := A2.alloc (.cells #[.int .i64 0, .int .i64 0, .slice none 0 0, .slice none 0 0] 48)
  have hs3 := HB.size
  replace HB := HB.alloc HB.size (.cells #[.int .i64 0, .int .i64 0, .slice none 0 0, .slice none 0 0] 48)
  have hz3 : (w3.alloc (.cells #[.int .i64 0, .int .i64 0, .slice none 0 0, .slice none 0 0] 48)).heap.size = w3.heap.size + 1 := by simp
  have a0 := A3.c 0 rfl; have a1 := A3.c 1 rfl; have a2 := A3.c 2 rfl; have a3 := A3.c 3 rfl; have b0 := A1.c 0 rfl; have b1 := A1.c 1 rfl; have b2 := A1.c 2 rfl; have b3 := A1.c 3 rfl
  go_wp2_with fail
  generalize w3.alloc (.cells #[.int .i64 0, .int .i64 0, .slice none 0 0, .slice none 0 0] 48) = W3 at *
  refine (eqQuad_no _).mono ?_
  rintro e u3 ⟨rfl, hB⟩
  have hw3 := hB.size
  replace HB := HB.trans (hB.mono HB.size); replace A1 := A1.step hB; replace A2 := A2.step hB; replace A3 := A3.step hB
  clear hB a0 a1 a2 a3 b0 b1 b2 b3
  have a0 := A2.c 0 rfl; have a1 := A2.c 1 rfl; have a2 := A2.c 2 rfl; have a3 := A2.c 3 rfl
  go_wp2_with fail
  refine (heldQuad_no _).mono ?_
  rintro e v3 ⟨rfl, hB⟩
  replace HB := HB.trans (hB.mono HB.size); replace A1 := A1.step hB; replace A2 := A2.step hB; replace A3 := A3.step hB
  clear hB a0 a1 a2 a3
  clear A1 A2 A3
  go_wp2
  go_ret
  exact ⟨rfl, HB⟩
theorem lawQuadNew_any (m d : Int) (w : World) : Calls Try.prog 5 #[.int .i64 m, .int .i64 d] w (BoolP true w) := by
  cases h : limB m d
  · exact lawQuadNew_no m d h w
  · exact lawQuadNew_yes m d h w
end Go.Proofs.Ytofjlobbohfacaa
