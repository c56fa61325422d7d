/- The walks of the negation of four words, by the model and by the program, and of the law over both. -/
import Derived.Test.YtdabkghmeopoeaaImplSub
import Derived.Test.YtdabkghmeopoeaaLawB
namespace Go.Proofs.Ytdabkghmeopoeaa
open Go.RowKit
set_option maxRecDepth 100000 in
set_option maxHeartbeats 1000000 in
theorem specNeg_any (a3 a2 a1 a0 : Int) (h3 : Word a3) (h2 : Word a2) (h1 : Word a1) (h0 : Word a0) (w : World) :
    Calls Try.prog 28 #[.agg #[.int .u64 a3, .int .u64 a2, .int .u64 a1, .int .u64 a0]] w (TellP (-(sw a3 a2 a1 a0)) w) := by
  have R0 : Wd ((w.alloc (Obj.cells #[Value.int IntKind.u64 a3, Value.int IntKind.u64 a2, Value.int IntKind.u64 a1, Value.int IntKind.u64 a0] 24)).alloc (Obj.cells #[Value.int IntKind.u64 0, Value.int IntKind.u64 0, Value.int IntKind.u64 0, Value.int IntKind.u64 0] 24)) (w.heap.size + 1) 0 0 0 0 := Wd.new _ 0 0 0 0 24 (by simp)
  have HB : Below w.heap.size w ((w.alloc (Obj.cells #[Value.int IntKind.u64 a3, Value.int IntKind.u64 a2, Value.int IntKind.u64 a1, Value.int IntKind.u64 a0] 24)).alloc (Obj.cells #[Value.int IntKind.u64 0, Value.int IntKind.u64 0, Value.int IntKind.u64 0, Value.int IntKind.u64 0] 24)) := ((Below.refl _ _).alloc (Nat.le_refl _) _).alloc (by simp) _
  go_enter Try.func28, Try.ntmps28
  go_wp2_with fail
  refine (from_any a3 a2 a1 a0 h3 h2 h1 h0 _).mono ?_
  rintro e w1 ⟨s1, ao1, n1, c1, ds1, rfl, N1, hB⟩
  replace R0 := R0.step hB
  replace HB := HB.trans (hB.mono HB.size)
  clear hB
  go_wp2_with fail
  refine (neg_any s1 ao1 n1 c1 ds1 _ 8 _ N1).mono ?_
  rintro e w2 ⟨s2, ao2, n2, c2, ds2, rfl, N2, hB⟩
  replace R0 := R0.step hB
  replace HB := HB.trans (hB.mono HB.size)
  clear hB N1
  go_wp2_with fail
  refine (toW_any s2 ao2 n2 c2 ds2 _ 8 _ N2 (by omega)).mono ?_
  intro e w3 hT
  have hTT := tellP_from HB hT
  replace R0 := R0.step hT.1
  obtain ⟨x3, x2, x1, x0, p, rfl⟩ := tellP_shape hT
  have r0 := R0.c0; have r1 := R0.c1; have r2 := R0.c2; have r3 := R0.c3; have f0 := R0.f0; have f1 := R0.f1; have f2 := R0.f2; have f3 := R0.f3
  clear hT N2 HB R0
  go_wp2
  refine bodyPost_ret (v := .tuple #[.agg #[.int .u64 x3, .int .u64 x2, .int .u64 x1, .int .u64 x0], .bool p]) (by simp [results, Try.results28, go_sem, r0, r1, r2, r3]) rfl ?_
  exact tellP_set (Nat.le_succ _) hTT
theorem word0 : Word 0 := ⟨by decide, by decide⟩
set_option maxRecDepth 100000 in
set_option maxHeartbeats 1000000 in
theorem implNeg_any (a3 a2 a1 a0 : Int) (h3 : Word a3) (h2 : Word a2) (h1 : Word a1) (h0 : Word a0) (w : World) :
    Calls Try.prog 29 #[.agg #[.int .u64 a3, .int .u64 a2, .int .u64 a1, .int .u64 a0]] w (TellP (-(sw a3 a2 a1 a0)) w) := by
  have R0 : Wd ((w.alloc (Obj.cells #[Value.int IntKind.u64 a3, Value.int IntKind.u64 a2, Value.int IntKind.u64 a1, Value.int IntKind.u64 a0] 24)).alloc (Obj.cells #[Value.int IntKind.u64 0, Value.int IntKind.u64 0, Value.int IntKind.u64 0, Value.int IntKind.u64 0] 24)) (w.heap.size + 1) 0 0 0 0 := Wd.new _ 0 0 0 0 24 (by simp)
  have HB : Below w.heap.size w ((w.alloc (Obj.cells #[Value.int IntKind.u64 a3, Value.int IntKind.u64 a2, Value.int IntKind.u64 a1, Value.int IntKind.u64 a0] 24)).alloc (Obj.cells #[Value.int IntKind.u64 0, Value.int IntKind.u64 0, Value.int IntKind.u64 0, Value.int IntKind.u64 0] 24)) := ((Below.refl _ _).alloc (Nat.le_refl _) _).alloc (by simp) _
  go_enter Try.func29, Try.ntmps29
  go_wp2_with fail
  refine (implSub_any 0 0 0 0 a3 a2 a1 a0 word0 word0 word0 word0 h3 h2 h1 h0 _).mono ?_
  intro e w3 hT
  rw [show sw 0 0 0 0 - sw a3 a2 a1 a0 = -(sw a3 a2 a1 a0) by have : sw 0 0 0 0 = 0 := by decide
                                                              omega] at hT
  have hTT := tellP_from HB hT
  replace R0 := R0.step hT.1
  obtain ⟨x3, x2, x1, x0, p, rfl⟩ := tellP_shape hT
  have r0 := R0.c0; have r1 := R0.c1; have r2 := R0.c2; have r3 := R0.c3; have f0 := R0.f0; have f1 := R0.f1; have f2 := R0.f2; have f3 := R0.f3
  clear hT HB R0
  go_wp2
  refine bodyPost_ret (v := .tuple #[.agg #[.int .u64 x3, .int .u64 x2, .int .u64 x1, .int .u64 x0], .bool p]) (by simp [results, Try.results29, go_sem, r0, r1, r2, r3]) rfl ?_
  exact tellP_set (Nat.le_succ _) hTT
set_option maxRecDepth 100000 in
set_option maxHeartbeats 1000000 in
theorem lawNeg_any (a3 a2 a1 a0 : Int) (h3 : Word a3) (h2 : Word a2) (h1 : Word a1) (h0 : Word a0) (w : World) :
    Calls Try.prog 8 #[.agg #[.int .u64 a3, .int .u64 a2, .int .u64 a1, .int .u64 a0]] w (BoolP true w) := by
  have A0 : Wd (w.alloc (Obj.cells #[Value.int IntKind.u64 a3, Value.int IntKind.u64 a2, Value.int IntKind.u64 a1, Value.int IntKind.u64 a0] 28)) w.heap.size a3 a2 a1 a0 := Wd.new _ _ _ _ _ _ rfl
  have HB : Below w.heap.size w (w.alloc (Obj.cells #[Value.int IntKind.u64 a3, Value.int IntKind.u64 a2, Value.int IntKind.u64 a1, Value.int IntKind.u64 a0] 28)) := (Below.refl _ _).alloc (Nat.le_refl _) _
  go_enter Try.func8, Try.ntmps8
  go_wp2_with fail
  refine (toWide_any a3 a2 a1 a0 _).mono ?_
  rintro e w1 ⟨rfl, hB⟩
  replace A0 := A0.step hB
  replace HB := HB.trans (hB.mono HB.size)
  clear hB
  go_wp2_with fail
  refine (specNeg_any a3 a2 a1 a0 h3 h2 h1 h0 _).mono ?_
  intro e w2 hT
  obtain ⟨s3, s2, s1, s0, p, rfl⟩ := tellP_shape hT
  replace A0 := (A0.step hT.1).alloc (Obj.cells #[Value.int IntKind.u64 s3, Value.int IntKind.u64 s2, Value.int IntKind.u64 s1, Value.int IntKind.u64 s0] 24)
  replace HB := HB.trans (hT.1.mono HB.size)
  have HB1 := HB.alloc HB.size (Obj.cells #[Value.int IntKind.u64 s3, Value.int IntKind.u64 s2, Value.int IntKind.u64 s1, Value.int IntKind.u64 s0] 24)
  have G0 := Wd.new w2 s3 s2 s1 s0 24 rfl
  have i0 := A0.c0; have i1 := A0.c1; have i2 := A0.c2; have i3 := A0.c3
  go_wp2_with fail
  refine (toWide_any a3 a2 a1 a0 _).mono ?_
  rintro e w3 ⟨rfl, hB⟩
  replace G0 := G0.step hB
  replace HB1 := HB1.trans (hB.mono HB1.size)
  clear hB i0 i1 i2 i3 A0 HB
  go_wp2_with fail
  refine (implNeg_any a3 a2 a1 a0 h3 h2 h1 h0 _).mono ?_
  intro e w4 hT'
  obtain ⟨t3, t2, t1, t0, q, rfl⟩ := tellP_shape hT'
  obtain ⟨rfl, rfl, rfl, rfl, rfl⟩ := tellP_same hT hT'
  replace G0 := G0.step hT'.1
  replace HB1 := HB1.trans (hT'.1.mono HB1.size)
  have HB2 := HB1.alloc HB1.size (Obj.cells #[Value.int IntKind.u64 s3, Value.int IntKind.u64 s2, Value.int IntKind.u64 s1, Value.int IntKind.u64 s0] 24)
  replace G0 := G0.alloc (Obj.cells #[Value.int IntKind.u64 s3, Value.int IntKind.u64 s2, Value.int IntKind.u64 s1, Value.int IntKind.u64 s0] 24)
  have i0 := G0.c0; have i1 := G0.c1; have i2 := G0.c2; have i3 := G0.c3
  have hpp : (p == p) = true := by simp
  clear hT hT' HB1
  go_wp2_with fail
  refine (eqWide_same _ _ _ _ _).mono ?_
  rintro e w5 ⟨rfl, hB⟩
  have HB3 := HB2.trans (hB.mono HB2.size)
  clear hB i0 i1 i2 i3 HB2 G0
  go_wp2
  go_ret
  exact ⟨rfl, HB3⟩
end Go.Proofs.Ytdabkghmeopoeaa
