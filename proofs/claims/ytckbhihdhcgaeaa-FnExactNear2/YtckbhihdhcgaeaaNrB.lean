/- The square of the distance of a spot and a segment: the program's walk. -/
import Derived.Test.YtckbhihdhcgaeaaNrA
namespace Go.Proofs.Ytckbhihdhcgaeaa
open Go.RowKit
theorem nt_cells {C m n : Int} {W : World} {gT gM : Nat} (BT : Blk W gT [.int .u64 (ww3 C), .int .u64 (ww2 C), .int .u64 (ww1 C), .int .u64 (ww0 C)]) (BM : Blk W gM [.int .i64 m, .int .i64 n]) : (fun w' => w'.cell? ⟨gT, 0, none⟩ = some (.int .u64 (ww3 C)) ∧ w'.cell? ⟨gT, 1, none⟩ = some (.int .u64 (ww2 C)) ∧ w'.cell? ⟨gT, 2, none⟩ = some (.int .u64 (ww1 C)) ∧ w'.cell? ⟨gT, 3, none⟩ = some (.int .u64 (ww0 C)) ∧ w'.cell? ⟨gM, 0, none⟩ = some (.int .i64 m) ∧ w'.cell? ⟨gM, 1, none⟩ = some (.int .i64 n)) W := ⟨BT.c 0 rfl, BT.c 1 rfl, BT.c 2 rfl, BT.c 3 rfl, BM.c 0 rfl, BM.c 1 rfl⟩
theorem nt_cells8 {C m n : Int} {W : World} {gT gM g : Nat} {v0 v1 v2 v3 v4 v5 v6 v7 : Value} (BT : Blk W gT [.int .u64 (ww3 C), .int .u64 (ww2 C), .int .u64 (ww1 C), .int .u64 (ww0 C)]) (BM : Blk W gM [.int .i64 m, .int .i64 n]) (hT : gT ≠ g) (hM : gM ≠ g) : (fun w' => w'.cell? ⟨gT, 0, none⟩ = some (.int .u64 (ww3 C)) ∧ w'.cell? ⟨gT, 1, none⟩ = some (.int .u64 (ww2 C)) ∧ w'.cell? ⟨gT, 2, none⟩ = some (.int .u64 (ww1 C)) ∧ w'.cell? ⟨gT, 3, none⟩ = some (.int .u64 (ww0 C)) ∧ w'.cell? ⟨gM, 0, none⟩ = some (.int .i64 m) ∧ w'.cell? ⟨gM, 1, none⟩ = some (.int .i64 n)) ((((((((W.setCell ⟨g, 0, none⟩ v0).setCell ⟨g, 1, none⟩ v1).setCell ⟨g, 2, none⟩ v2).setCell ⟨g, 3, none⟩ v3).setCell ⟨g, 4, none⟩ v4).setCell ⟨g, 5, none⟩ v5).setCell ⟨g, 6, none⟩ v6).setCell ⟨g, 7, none⟩ v7) := ⟨(BT.set8 hT).c 0 rfl, (BT.set8 hT).c 1 rfl, (BT.set8 hT).c 2 rfl, (BT.set8 hT).c 3 rfl, (BM.set8 hM).c 0 rfl, (BM.set8 hM).c 1 rfl⟩
set_option maxRecDepth 100000 in
set_option maxHeartbeats 8000000 in
theorem implNear2_det (a b c d x y : Int) (w : World) : Calls Try.prog 44 #[Sg a b c d, Sp x y] w (VP (nearV a b c d x y) w) := by
  have T0 : ArgsB w (((w.alloc (.cells #[.int .i64 a, .int .i64 b, .int .i64 c, .int .i64 d] 56)).alloc (.cells #[.int .i64 x, .int .i64 y] 54)).alloc (.cells #[.int .u64 0, .int .u64 0, .int .u64 0, .int .u64 0, .int .u64 0, .int .u64 0, .int .u64 0, .int .u64 0] 44)) [[.int .i64 a, .int .i64 b, .int .i64 c, .int .i64 d], [.int .i64 x, .int .i64 y], [.int .u64 0, .int .u64 0, .int .u64 0, .int .u64 0, .int .u64 0, .int .u64 0, .int .u64 0, .int .u64 0]] := ar3 _ _ _ _ _ _ w
  have SO := fun w => implSegOk_any a b c d _ rfl w
  have PO := fun w => implSpotOk_any x y _ rfl w
  go_enter Try.func44, Try.ntmps44
  go_wp2_with fail
  generalize (((w.alloc (.cells #[.int .i64 a, .int .i64 b, .int .i64 c, .int .i64 d] 56)).alloc (.cells #[.int .i64 x, .int .i64 y] 54)).alloc (.cells #[.int .u64 0, .int .u64 0, .int .u64 0, .int .u64 0, .int .u64 0, .int .u64 0, .int .u64 0, .int .u64 0] 44)) = WW at *
  refine (SO _).mono ?_
  rintro e w1 ⟨rfl, hB⟩
  replace T0 := T0.step hB
  clear hB
  by_cases hs : segOk a b c d = true
  · rw [hs]
    have Y0 : Blk _ (w.heap.size + 1) _ := T0.b 1 rfl; have q0 := Y0.c 0 rfl; have q1 := Y0.c 1 rfl; clear Y0
    go_wp2_with fail
    refine (PO _).mono ?_
    rintro e w2 ⟨rfl, hB⟩
    replace T0 := T0.step hB
    clear hB q0 q1
    by_cases hp : spotOk x y = true
    · rw [hp]
      have HW : Hid (nearV a b c d x y = nearW a b c d x y) := by show _ = _; unfold nearV; rw [hs, hp]; rfl
      obtain ⟨i1, i2, i3, i4⟩ := in6_seg hs
      obtain ⟨i5, i6⟩ := in1_spot hp
      have M1 := minusS_det c d a b i3 i4 i1 i2
      have M2 := minusS_det x y a b i5 i6 i1 i2
      have M3 := minusS_det x y c d i5 i6 i3 i4
      have hm2 : In2 (c - a) := ⟨by omega, by omega⟩
      have hn2 : In2 (d - b) := ⟨by omega, by omega⟩
      have hi2 : In2 (x - a) := ⟨by omega, by omega⟩
      have hj2 : In2 (y - b) := ⟨by omega, by omega⟩
      have hk2 : In2 (x - c) := ⟨by omega, by omega⟩
      have hl2 : In2 (y - d) := ⟨by omega, by omega⟩
      have HJ : Hid (nearW a b c d x y = if (x - a) * (c - a) + (y - b) * (d - b) ≤ 0 then ratV ((x - a) * (x - a) + (y - b) * (y - b)) 1 else if (x - c) * (c - a) + (y - d) * (d - b) ≥ 0 then ratV ((x - c) * (x - c) + (y - d) * (y - d)) 1 else ratV (((c - a) * (y - b) - (d - b) * (x - a)) * ((c - a) * (y - b) - (d - b) * (x - a))) ((c - a) * (c - a) + (d - b) * (d - b))) := rfl
      generalize hm : c - a = m at *
      generalize hn : d - b = n at *
      generalize hi : x - a = i at *
      generalize hj : y - b = j at *
      generalize hk : x - c = k at *
      generalize hl : y - d = l at *
      clear hm hn hi hj hk hl i1 i2 i3 i4 i5 i6 hs hp SO PO
      have D1 := dot_det i j m n hi2 hj2 hm2 hn2
      have D2 := dot_det i j i j hi2 hj2 hi2 hj2
      have D3 := dot_det k l m n hk2 hl2 hm2 hn2
      have D4 := dot_det k l k l hk2 hl2 hk2 hl2
      have D5 := cross_det m n i j hm2 hn2 hi2 hj2
      have D6 := dot_det m n m n hm2 hn2 hm2 hn2
      have b1 := prod2 hi2 hi2; have b2 := prod2 hj2 hj2; have b3 := prod2 hk2 hk2; have b4 := prod2 hl2 hl2; have b5 := prod2 hm2 hj2; have b6 := prod2 hn2 hi2; have b7 := prod2 hm2 hm2; have b8 := prod2 hn2 hn2
      clear hm2 hn2 hi2 hj2 hk2 hl2
      obtain ⟨z0, z1, z2, z3, z4, z5, z6, z7, f, hf⟩ := nearW_ex a b c d x y
      have HO : Hid (nearV a b c d x y = .tuple #[.agg #[.int .u64 z0, .int .u64 z1, .int .u64 z2, .int .u64 z3, .int .u64 z4, .int .u64 z5, .int .u64 z6, .int .u64 z7], .bool f]) := HW.out.trans hf
      rw [HJ.out] at hf
      clear HW HJ
      have Y1 : Blk _ w.heap.size _ := T0.b 0 rfl; have g0 := Y1.c 0 rfl; have g1 := Y1.c 1 rfl; have g2 := Y1.c 2 rfl; have g3 := Y1.c 3 rfl; clear Y1
      go_wp2_with fail
      refine (M1 _).mono ?_
      rintro e w3 ⟨rfl, hB⟩
      have hgM : w.heap.size + 2 < w3.heap.size := ((T0.step hB).b 2 rfl).lt
      replace T0 := (T0.step hB).alloc (.cells #[.int .i64 m, .int .i64 n] 54)
      have BM := Blk.new w3 [.int .i64 m, .int .i64 n] 54 rfl
      clear hB M1 g0 g1 g2 g3
      have tok1 : True := trivial
      go_upto_region 4 with fail
      generalize w3.alloc (.cells #[.int .i64 m, .int .i64 n] 54) = W3 at *
      generalize w3.heap.size = gM at *
      have hl0 := (T0.b 2 rfl).lt
      have hlM := BM.lt
      go_cut [7, 8] (fun p q wx => CutG w wx [[.int .i64 a, .int .i64 b, .int .i64 c, .int .i64 d], [.int .i64 x, .int .i64 y], [.int .u64 0, .int .u64 0, .int .u64 0, .int .u64 0, .int .u64 0, .int .u64 0, .int .u64 0, .int .u64 0]] [.int .i64 i, .int .i64 j] [.int .i64 k, .int .i64 l] p q ∧ Blk wx gM [.int .i64 m, .int .i64 n])
      case first =>
        go_region_held3 (fun w' => w'.cell? ⟨w.heap.size, 0, none⟩ = some (.int .i64 a) ∧ w'.cell? ⟨w.heap.size, 1, none⟩ = some (.int .i64 b) ∧ w'.cell? ⟨w.heap.size, 2, none⟩ = some (.int .i64 c) ∧ w'.cell? ⟨w.heap.size, 3, none⟩ = some (.int .i64 d) ∧ w'.cell? ⟨w.heap.size + 1, 0, none⟩ = some (.int .i64 x) ∧ w'.cell? ⟨w.heap.size + 1, 1, none⟩ = some (.int .i64 y)) ((refine nr_cells ?_ <;> repeat (first | (with_reducible exact T0) | (with_reducible refine ArgsB.drew ?_) | (with_reducible refine ArgsB.alloc ?_ _) | (with_reducible refine ArgsB.set2 ?_ (by simp; omega) _ _))))
          (first
            | (go_at_call 100; have _t := tok1; refine (M2 _).mono ?_; rintro e w4 ⟨rfl, hB⟩; (first | (have T1 : ArgsB w w4 [[.int .i64 a, .int .i64 b, .int .i64 c, .int .i64 d], [.int .i64 x, .int .i64 y], [.int .u64 0, .int .u64 0, .int .u64 0, .int .u64 0, .int .u64 0, .int .u64 0, .int .u64 0, .int .u64 0]] := (by with_reducible exact T0.step hB); have tltw4 := (T0.b 2 rfl).lt; have lBMw4 := BM.lt; replace BM := BM.step hB; (try (replace G0 := G0.step hB; have j0c := G0.c 0 rfl; have j0f := G0.f 0 rfl; have j1c := G0.c 1 rfl; have j1f := G0.f 1 rfl; have jlt := G0.lt)); (try (replace G1 := G1.step hB; have k0c := G1.c 0 rfl; have k0f := G1.f 0 rfl; have k1c := G1.c 1 rfl; have k1f := G1.f 1 rfl; have klt := G1.lt))) | (have T1 : ArgsB w w4 [[.int .i64 a, .int .i64 b, .int .i64 c, .int .i64 d], [.int .i64 x, .int .i64 y], [.int .u64 0, .int .u64 0, .int .u64 0, .int .u64 0, .int .u64 0, .int .u64 0, .int .u64 0, .int .u64 0]] := (by with_reducible exact T0.drew.step hB); have tltw4 := (T0.b 2 rfl).lt; have lBMw4 := BM.lt; replace BM := BM.drew.step hB; (try (replace G0 := G0.drew.step hB; have j0c := G0.c 0 rfl; have j0f := G0.f 0 rfl; have j1c := G0.c 1 rfl; have j1f := G0.f 1 rfl; have jlt := G0.lt)); (try (replace G1 := G1.drew.step hB; have k0c := G1.c 0 rfl; have k0f := G1.f 0 rfl; have k1c := G1.c 1 rfl; have k1f := G1.f 1 rfl; have klt := G1.lt))) | (have T1 : ArgsB w w4 [[.int .i64 a, .int .i64 b, .int .i64 c, .int .i64 d], [.int .i64 x, .int .i64 y], [.int .u64 0, .int .u64 0, .int .u64 0, .int .u64 0, .int .u64 0, .int .u64 0, .int .u64 0, .int .u64 0]] := (by with_reducible exact (T0.alloc _).step hB); have tltw4 := (T0.b 2 rfl).lt; have lBMw4 := BM.lt; replace BM := (BM.alloc _).step hB; (first | (have G1 := (Blk.new _ [.int .i64 0, .int .i64 0] _ rfl).step hB; have hgg := G0.lt; replace G0 := (G0.alloc _).step hB; have j0c := G0.c 0 rfl; have j0f := G0.f 0 rfl; have j1c := G0.c 1 rfl; have j1f := G0.f 1 rfl; have jlt := G0.lt; have k0c := G1.c 0 rfl; have k0f := G1.f 0 rfl; have k1c := G1.c 1 rfl; have k1f := G1.f 1 rfl; have klt := G1.lt) | (have G0 := (Blk.new _ [.int .i64 0, .int .i64 0] _ rfl).step hB; have j0c := G0.c 0 rfl; have j0f := G0.f 0 rfl; have j1c := G0.c 1 rfl; have j1f := G0.f 1 rfl; have jlt := G0.lt))) | (have T1 : ArgsB w w4 [[.int .i64 a, .int .i64 b, .int .i64 c, .int .i64 d], [.int .i64 x, .int .i64 y], [.int .u64 0, .int .u64 0, .int .u64 0, .int .u64 0, .int .u64 0, .int .u64 0, .int .u64 0, .int .u64 0]] := (by with_reducible exact (T0.alloc _).drew.step hB); have tltw4 := (T0.b 2 rfl).lt; have lBMw4 := BM.lt; replace BM := (BM.alloc _).drew.step hB; (first | (have G1 := (Blk.new _ [.int .i64 0, .int .i64 0] _ rfl).drew.step hB; have hgg := G0.lt; replace G0 := (G0.alloc _).drew.step hB; have j0c := G0.c 0 rfl; have j0f := G0.f 0 rfl; have j1c := G0.c 1 rfl; have j1f := G0.f 1 rfl; have jlt := G0.lt; have k0c := G1.c 0 rfl; have k0f := G1.f 0 rfl; have k1c := G1.c 1 rfl; have k1f := G1.f 1 rfl; have klt := G1.lt) | (have G0 := (Blk.new _ [.int .i64 0, .int .i64 0] _ rfl).drew.step hB; have j0c := G0.c 0 rfl; have j0f := G0.f 0 rfl; have j1c := G0.c 1 rfl; have j1f := G0.f 1 rfl; have jlt := G0.lt))) | (have T1 : ArgsB w w4 [[.int .i64 a, .int .i64 b, .int .i64 c, .int .i64 d], [.int .i64 x, .int .i64 y], [.int .u64 0, .int .u64 0, .int .u64 0, .int .u64 0, .int .u64 0, .int .u64 0, .int .u64 0, .int .u64 0]] := (by with_reducible exact ((T0.alloc _).alloc _).step hB); have tltw4 := (T0.b 2 rfl).lt; have lBMw4 := BM.lt; replace BM := ((BM.alloc _).alloc _).step hB; have G0 := ((Blk.new _ [.int .i64 0, .int .i64 0] _ rfl).alloc _).step hB; have G1 := (Blk.newS _ _ [.int .i64 0, .int .i64 0] _).step hB; have j0c := G0.c 0 rfl; have j0f := G0.f 0 rfl; have j1c := G0.c 1 rfl; have j1f := G0.f 1 rfl; have jlt := G0.lt; have k0c := G1.c 0 rfl; have k0f := G1.f 0 rfl; have k1c := G1.c 1 rfl; have k1f := G1.f 1 rfl; have klt := G1.lt) | (have T1 : ArgsB w w4 [[.int .i64 a, .int .i64 b, .int .i64 c, .int .i64 d], [.int .i64 x, .int .i64 y], [.int .u64 0, .int .u64 0, .int .u64 0, .int .u64 0, .int .u64 0, .int .u64 0, .int .u64 0, .int .u64 0]] := (by with_reducible exact ((T0.alloc _).alloc _).drew.step hB); have tltw4 := (T0.b 2 rfl).lt; have lBMw4 := BM.lt; replace BM := ((BM.alloc _).alloc _).drew.step hB; have G0 := ((Blk.new _ [.int .i64 0, .int .i64 0] _ rfl).alloc _).drew.step hB; have G1 := (Blk.newS _ _ [.int .i64 0, .int .i64 0] _).drew.step hB; have j0c := G0.c 0 rfl; have j0f := G0.f 0 rfl; have j1c := G0.c 1 rfl; have j1f := G0.f 1 rfl; have jlt := G0.lt; have k0c := G1.c 0 rfl; have k0f := G1.f 0 rfl; have k1c := G1.c 1 rfl; have k1f := G1.f 1 rfl; have klt := G1.lt)); clear T0; have T0 := T1; clear T1; clear hB tok1 _t)
            | (go_at_call 100; refine (M3 _).mono ?_; rintro e w5 ⟨rfl, hB⟩; (first | (have T1 : ArgsB w w5 [[.int .i64 a, .int .i64 b, .int .i64 c, .int .i64 d], [.int .i64 x, .int .i64 y], [.int .u64 0, .int .u64 0, .int .u64 0, .int .u64 0, .int .u64 0, .int .u64 0, .int .u64 0, .int .u64 0]] := (by with_reducible exact T0.step hB); have tltw5 := (T0.b 2 rfl).lt; have lBMw5 := BM.lt; replace BM := BM.step hB; (try (replace G0 := G0.step hB; have j0c := G0.c 0 rfl; have j0f := G0.f 0 rfl; have j1c := G0.c 1 rfl; have j1f := G0.f 1 rfl; have jlt := G0.lt)); (try (replace G1 := G1.step hB; have k0c := G1.c 0 rfl; have k0f := G1.f 0 rfl; have k1c := G1.c 1 rfl; have k1f := G1.f 1 rfl; have klt := G1.lt))) | (have T1 : ArgsB w w5 [[.int .i64 a, .int .i64 b, .int .i64 c, .int .i64 d], [.int .i64 x, .int .i64 y], [.int .u64 0, .int .u64 0, .int .u64 0, .int .u64 0, .int .u64 0, .int .u64 0, .int .u64 0, .int .u64 0]] := (by with_reducible exact T0.drew.step hB); have tltw5 := (T0.b 2 rfl).lt; have lBMw5 := BM.lt; replace BM := BM.drew.step hB; (try (replace G0 := G0.drew.step hB; have j0c := G0.c 0 rfl; have j0f := G0.f 0 rfl; have j1c := G0.c 1 rfl; have j1f := G0.f 1 rfl; have jlt := G0.lt)); (try (replace G1 := G1.drew.step hB; have k0c := G1.c 0 rfl; have k0f := G1.f 0 rfl; have k1c := G1.c 1 rfl; have k1f := G1.f 1 rfl; have klt := G1.lt))) | (have T1 : ArgsB w w5 [[.int .i64 a, .int .i64 b, .int .i64 c, .int .i64 d], [.int .i64 x, .int .i64 y], [.int .u64 0, .int .u64 0, .int .u64 0, .int .u64 0, .int .u64 0, .int .u64 0, .int .u64 0, .int .u64 0]] := (by with_reducible exact (T0.alloc _).step hB); have tltw5 := (T0.b 2 rfl).lt; have lBMw5 := BM.lt; replace BM := (BM.alloc _).step hB; (first | (have G1 := (Blk.new _ [.int .i64 0, .int .i64 0] _ rfl).step hB; have hgg := G0.lt; replace G0 := (G0.alloc _).step hB; have j0c := G0.c 0 rfl; have j0f := G0.f 0 rfl; have j1c := G0.c 1 rfl; have j1f := G0.f 1 rfl; have jlt := G0.lt; have k0c := G1.c 0 rfl; have k0f := G1.f 0 rfl; have k1c := G1.c 1 rfl; have k1f := G1.f 1 rfl; have klt := G1.lt) | (have G0 := (Blk.new _ [.int .i64 0, .int .i64 0] _ rfl).step hB; have j0c := G0.c 0 rfl; have j0f := G0.f 0 rfl; have j1c := G0.c 1 rfl; have j1f := G0.f 1 rfl; have jlt := G0.lt))) | (have T1 : ArgsB w w5 [[.int .i64 a, .int .i64 b, .int .i64 c, .int .i64 d], [.int .i64 x, .int .i64 y], [.int .u64 0, .int .u64 0, .int .u64 0, .int .u64 0, .int .u64 0, .int .u64 0, .int .u64 0, .int .u64 0]] := (by with_reducible exact (T0.alloc _).drew.step hB); have tltw5 := (T0.b 2 rfl).lt; have lBMw5 := BM.lt; replace BM := (BM.alloc _).drew.step hB; (first | (have G1 := (Blk.new _ [.int .i64 0, .int .i64 0] _ rfl).drew.step hB; have hgg := G0.lt; replace G0 := (G0.alloc _).drew.step hB; have j0c := G0.c 0 rfl; have j0f := G0.f 0 rfl; have j1c := G0.c 1 rfl; have j1f := G0.f 1 rfl; have jlt := G0.lt; have k0c := G1.c 0 rfl; have k0f := G1.f 0 rfl; have k1c := G1.c 1 rfl; have k1f := G1.f 1 rfl; have klt := G1.lt) | (have G0 := (Blk.new _ [.int .i64 0, .int .i64 0] _ rfl).drew.step hB; have j0c := G0.c 0 rfl; have j0f := G0.f 0 rfl; have j1c := G0.c 1 rfl; have j1f := G0.f 1 rfl; have jlt := G0.lt))) | (have T1 : ArgsB w w5 [[.int .i64 a, .int .i64 b, .int .i64 c, .int .i64 d], [.int .i64 x, .int .i64 y], [.int .u64 0, .int .u64 0, .int .u64 0, .int .u64 0, .int .u64 0, .int .u64 0, .int .u64 0, .int .u64 0]] := (by with_reducible exact ((T0.alloc _).alloc _).step hB); have tltw5 := (T0.b 2 rfl).lt; have lBMw5 := BM.lt; replace BM := ((BM.alloc _).alloc _).step hB; have G0 := ((Blk.new _ [.int .i64 0, .int .i64 0] _ rfl).alloc _).step hB; have G1 := (Blk.newS _ _ [.int .i64 0, .int .i64 0] _).step hB; have j0c := G0.c 0 rfl; have j0f := G0.f 0 rfl; have j1c := G0.c 1 rfl; have j1f := G0.f 1 rfl; have jlt := G0.lt; have k0c := G1.c 0 rfl; have k0f := G1.f 0 rfl; have k1c := G1.c 1 rfl; have k1f := G1.f 1 rfl; have klt := G1.lt) | (have T1 : ArgsB w w5 [[.int .i64 a, .int .i64 b, .int .i64 c, .int .i64 d], [.int .i64 x, .int .i64 y], [.int .u64 0, .int .u64 0, .int .u64 0, .int .u64 0, .int .u64 0, .int .u64 0, .int .u64 0, .int .u64 0]] := (by with_reducible exact ((T0.alloc _).alloc _).drew.step hB); have tltw5 := (T0.b 2 rfl).lt; have lBMw5 := BM.lt; replace BM := ((BM.alloc _).alloc _).drew.step hB; have G0 := ((Blk.new _ [.int .i64 0, .int .i64 0] _ rfl).alloc _).drew.step hB; have G1 := (Blk.newS _ _ [.int .i64 0, .int .i64 0] _).drew.step hB; have j0c := G0.c 0 rfl; have j0f := G0.f 0 rfl; have j1c := G0.c 1 rfl; have j1f := G0.f 1 rfl; have jlt := G0.lt; have k0c := G1.c 0 rfl; have k0f := G1.f 0 rfl; have k1c := G1.c 1 rfl; have k1f := G1.f 1 rfl; have klt := G1.lt)); clear T0; have T0 := T1; clear T1; clear hB))
        all_goals go_wp2_with fail
        all_goals go_meet
        all_goals have hl3 : w.heap.size + ([[.int .i64 a, .int .i64 b, .int .i64 c, .int .i64 d], [.int .i64 x, .int .i64 y], [.int .u64 0, .int .u64 0, .int .u64 0, .int .u64 0, .int .u64 0, .int .u64 0, .int .u64 0, .int .u64 0]] : List (List Value)).length ≤ w5.heap.size := (T0.b 2 rfl).lt
        all_goals have hlb := BM.lt
        all_goals first | (with_reducible exact ⟨cutG_nn T0 hl3, (BM.alloc _).alloc _⟩) | (with_reducible exact ⟨cutG_nn' T0 hl3, (BM.alloc _).alloc _⟩) | (with_reducible exact ⟨cutG_sn T0 G0 (by simp; omega) hl3, (BM.set2 (by omega)).alloc _⟩) | (with_reducible exact ⟨cutG_sn' T0 G0 (by simp; omega) hl3, (BM.set2 (by omega)).alloc _⟩) | (with_reducible exact ⟨cutG_ss T0 G0 G1 (by simp; omega) (by simp; omega) (by omega), (BM.set2 (by omega)).set2 (by omega)⟩) | (with_reducible exact ⟨cutG_ss T0 G1 G0 (by simp; omega) (by simp; omega) (by omega), (BM.set2 (by omega)).set2 (by omega)⟩)
      case rest =>
        clear T0 BM tok1 M2 M3 hl0 hlM
        obtain ⟨⟨gA, gB, hp, hq, hne, hgA, hgB, T0, BA, BB⟩, BM⟩ := hcut
        subst hp; subst hq
        have bm0 := BM.c 0 rfl; have bm1 := BM.c 1 rfl; have ba0 := BA.c 0 rfl; have ba1 := BA.c 1 rfl; have bb0 := BB.c 0 rfl; have bb1 := BB.c 1 rfl
        go_wp2_with fail
        refine (D1 _).mono ?_
        rintro e w6 ⟨rfl, hB⟩
        replace T0 := T0.step hB; replace BM := BM.step hB; replace BA := BA.step hB; replace BB := BB.step hB
        clear hB bm0 bm1 ba0 ba1 bb0 bb1
        have bm0 := BM.c 0 rfl; have bm1 := BM.c 1 rfl; have ba0 := BA.c 0 rfl; have ba1 := BA.c 1 rfl; have bb0 := BB.c 0 rfl; have bb1 := BB.c 1 rfl
        by_cases h1 : i * m + j * n ≤ 0
        · rw [if_pos h1] at hf
          have E1 := implOf_det (i * i + j * j)
          have E2 := implOf_det 1
          have E3 := implRatioOf_det (i * i + j * j) 1 (told_big (by omega)) (by decide)
          rw [hf] at E3
          generalize i * m + j * n = o1 at *
          obtain ⟨b1l, b1u⟩ : -8000000000000 ≤ i * i + j * j ∧ i * i + j * j ≤ 8000000000000 := by omega
          replace E1 := fun w => E1 w (by omega) (by omega)
          replace E2 := fun w => E2 w (by decide) (by decide)
          clear b1 b2 b3 b4 b5 b6 b7 b8 D1 D3 D4 D5 D6 hf
          generalize i * i + j * j = o2 at *
          go_wp2_with fail
          refine (D2 _).mono ?_
          rintro e w7 ⟨rfl, hB⟩
          replace T0 := T0.step hB; replace BM := BM.step hB; replace BA := BA.step hB; replace BB := BB.step hB
          clear hB bm0 bm1 ba0 ba1 bb0 bb1
          have bm0 := BM.c 0 rfl; have bm1 := BM.c 1 rfl; have ba0 := BA.c 0 rfl; have ba1 := BA.c 1 rfl; have bb0 := BB.c 0 rfl; have bb1 := BB.c 1 rfl
          go_wp2_with fail
          refine (E1 _).mono ?_
          rintro e w8 ⟨rfl, hB⟩
          replace T0 := T0.step hB; replace BM := BM.step hB; replace BA := BA.step hB; replace BB := BB.step hB
          clear hB bm0 bm1 ba0 ba1 bb0 bb1
          have bm0 := BM.c 0 rfl; have bm1 := BM.c 1 rfl; have ba0 := BA.c 0 rfl; have ba1 := BA.c 1 rfl; have bb0 := BB.c 0 rfl; have bb1 := BB.c 1 rfl
          go_wp2_with fail
          refine (E2 _).mono ?_
          rintro e w9 ⟨rfl, hB⟩
          replace T0 := T0.step hB; replace BM := BM.step hB; replace BA := BA.step hB; replace BB := BB.step hB
          clear hB bm0 bm1 ba0 ba1 bb0 bb1
          have bm0 := BM.c 0 rfl; have bm1 := BM.c 1 rfl; have ba0 := BA.c 0 rfl; have ba1 := BA.c 1 rfl; have bb0 := BB.c 0 rfl; have bb1 := BB.c 1 rfl
          go_wp2_with fail
          refine (E3 _).mono ?_
          rintro e w10 ⟨rfl, hB⟩
          replace T0 := T0.step hB
          have o0 := (T0.b 2 rfl).c 0 rfl; have r0 := (T0.b 2 rfl).f 0 rfl; have o1 := (T0.b 2 rfl).c 1 rfl; have r1 := (T0.b 2 rfl).f 1 rfl; have o2 := (T0.b 2 rfl).c 2 rfl; have r2 := (T0.b 2 rfl).f 2 rfl; have o3 := (T0.b 2 rfl).c 3 rfl; have r3 := (T0.b 2 rfl).f 3 rfl; have o4 := (T0.b 2 rfl).c 4 rfl; have r4 := (T0.b 2 rfl).f 4 rfl; have o5 := (T0.b 2 rfl).c 5 rfl; have r5 := (T0.b 2 rfl).f 5 rfl; have o6 := (T0.b 2 rfl).c 6 rfl; have r6 := (T0.b 2 rfl).f 6 rfl; have o7 := (T0.b 2 rfl).c 7 rfl; have r7 := (T0.b 2 rfl).f 7 rfl; have olt := (T0.b 2 rfl).lt
          have HB := T0.below
          clear hB T0 BM BA BB bm0 bm1 ba0 ba1 bb0 bb1
          go_wp2
          refine bodyPost_ret (v := .tuple #[.agg #[.int .u64 z0, .int .u64 z1, .int .u64 z2, .int .u64 z3, .int .u64 z4, .int .u64 z5, .int .u64 z6, .int .u64 z7], .bool f]) (by simp [results, Try.results44, go_sem, o0, o1, o2, o3, o4, o5, o6, o7]) rfl ?_
          refine ⟨by rw [HO.out], ?_⟩
          repeat' (refine Below.setCell ?_ (by simp; try omega) _)
          exact HB
        · rw [if_neg h1] at hf
          generalize i * m + j * n = o1 at *
          go_wp2_with fail
          refine (D3 _).mono ?_
          rintro e w7 ⟨rfl, hB⟩
          replace T0 := T0.step hB; replace BM := BM.step hB; replace BA := BA.step hB; replace BB := BB.step hB
          clear hB bm0 bm1 ba0 ba1 bb0 bb1
          have bm0 := BM.c 0 rfl; have bm1 := BM.c 1 rfl; have ba0 := BA.c 0 rfl; have ba1 := BA.c 1 rfl; have bb0 := BB.c 0 rfl; have bb1 := BB.c 1 rfl
          by_cases h2 : k * m + l * n ≥ 0
          · rw [if_pos h2] at hf
            have E1 := implOf_det (k * k + l * l)
            have E2 := implOf_det 1
            have E3 := implRatioOf_det (k * k + l * l) 1 (told_big (by omega)) (by decide)
            rw [hf] at E3
            generalize k * m + l * n = o3 at *
            obtain ⟨b1l, b1u⟩ : -8000000000000 ≤ k * k + l * l ∧ k * k + l * l ≤ 8000000000000 := by omega
            replace E1 := fun w => E1 w (by omega) (by omega)
            replace E2 := fun w => E2 w (by decide) (by decide)
            clear b1 b2 b3 b4 b5 b6 b7 b8 D1 D3 D2 D5 D6 hf
            generalize k * k + l * l = o2 at *
            go_wp2_with fail
            refine (D4 _).mono ?_
            rintro e w8 ⟨rfl, hB⟩
            replace T0 := T0.step hB; replace BM := BM.step hB; replace BA := BA.step hB; replace BB := BB.step hB
            clear hB bm0 bm1 ba0 ba1 bb0 bb1
            have bm0 := BM.c 0 rfl; have bm1 := BM.c 1 rfl; have ba0 := BA.c 0 rfl; have ba1 := BA.c 1 rfl; have bb0 := BB.c 0 rfl; have bb1 := BB.c 1 rfl
            go_wp2_with fail
            refine (E1 _).mono ?_
            rintro e w9 ⟨rfl, hB⟩
            replace T0 := T0.step hB; replace BM := BM.step hB; replace BA := BA.step hB; replace BB := BB.step hB
            clear hB bm0 bm1 ba0 ba1 bb0 bb1
            have bm0 := BM.c 0 rfl; have bm1 := BM.c 1 rfl; have ba0 := BA.c 0 rfl; have ba1 := BA.c 1 rfl; have bb0 := BB.c 0 rfl; have bb1 := BB.c 1 rfl
            go_wp2_with fail
            refine (E2 _).mono ?_
            rintro e w10 ⟨rfl, hB⟩
            replace T0 := T0.step hB; replace BM := BM.step hB; replace BA := BA.step hB; replace BB := BB.step hB
            clear hB bm0 bm1 ba0 ba1 bb0 bb1
            have bm0 := BM.c 0 rfl; have bm1 := BM.c 1 rfl; have ba0 := BA.c 0 rfl; have ba1 := BA.c 1 rfl; have bb0 := BB.c 0 rfl; have bb1 := BB.c 1 rfl
            go_wp2_with fail
            refine (E3 _).mono ?_
            rintro e w11 ⟨rfl, hB⟩
            replace T0 := T0.step hB
            have o0 := (T0.b 2 rfl).c 0 rfl; have r0 := (T0.b 2 rfl).f 0 rfl; have o1 := (T0.b 2 rfl).c 1 rfl; have r1 := (T0.b 2 rfl).f 1 rfl; have o2 := (T0.b 2 rfl).c 2 rfl; have r2 := (T0.b 2 rfl).f 2 rfl; have o3 := (T0.b 2 rfl).c 3 rfl; have r3 := (T0.b 2 rfl).f 3 rfl; have o4 := (T0.b 2 rfl).c 4 rfl; have r4 := (T0.b 2 rfl).f 4 rfl; have o5 := (T0.b 2 rfl).c 5 rfl; have r5 := (T0.b 2 rfl).f 5 rfl; have o6 := (T0.b 2 rfl).c 6 rfl; have r6 := (T0.b 2 rfl).f 6 rfl; have o7 := (T0.b 2 rfl).c 7 rfl; have r7 := (T0.b 2 rfl).f 7 rfl; have olt := (T0.b 2 rfl).lt
            have HB := T0.below
            clear hB T0 BM BA BB bm0 bm1 ba0 ba1 bb0 bb1
            go_wp2
            refine bodyPost_ret (v := .tuple #[.agg #[.int .u64 z0, .int .u64 z1, .int .u64 z2, .int .u64 z3, .int .u64 z4, .int .u64 z5, .int .u64 z6, .int .u64 z7], .bool f]) (by simp [results, Try.results44, go_sem, o0, o1, o2, o3, o4, o5, o6, o7]) rfl ?_
            refine ⟨by rw [HO.out], ?_⟩
            repeat' (refine Below.setCell ?_ (by simp; try omega) _)
            exact HB
          · rw [if_neg h2] at hf
            generalize k * m + l * n = o3 at *
            obtain ⟨c1l, c1u⟩ : -8000000000000 ≤ m * j - n * i ∧ m * j - n * i ≤ 8000000000000 := by omega
            obtain ⟨c2l, c2u⟩ : -8000000000000 ≤ m * m + n * n ∧ m * m + n * n ≤ 8000000000000 := by omega
            clear b1 b2 b3 b4 b5 b6 b7 b8 D1 D2 D3 D4
            generalize m * j - n * i = C at *
            generalize m * m + n * n = G at *
            have c3 := mul_in (p := C) (q := C) (M := 8000000000000) (N := 8000000000000) c1l c1u c1l c1u
            have E1 := fun w => implOf_det C w (by omega) (by omega)
            have E2 := fun w => implOf_det G w (by omega) (by omega)
            have E3 := times_det C C (told_big (by omega)) (told_big (by omega))
            have E4 := toldI_det (C * C) (told_big (by omega))
            have E5 := implRatioOf_det (C * C) G (told_big (by omega)) (told_big (by omega))
            rw [hf] at E5
            clear hf c1l c1u c2l c2u c3
            generalize C * C = CC at *
            go_wp2_with fail
            refine (D5 _).mono ?_
            rintro e w8 ⟨rfl, hB⟩
            replace T0 := T0.step hB; replace BM := BM.step hB; replace BA := BA.step hB; replace BB := BB.step hB
            clear hB bm0 bm1 ba0 ba1 bb0 bb1
            have bm0 := BM.c 0 rfl; have bm1 := BM.c 1 rfl; have ba0 := BA.c 0 rfl; have ba1 := BA.c 1 rfl; have bb0 := BB.c 0 rfl; have bb1 := BB.c 1 rfl
            go_wp2_with fail
            refine (E1 _).mono ?_
            rintro e w9 ⟨rfl, hB⟩
            have hgT : w.heap.size + 2 < w9.heap.size := ((T0.step hB).b 2 rfl).lt
            replace T0 := (T0.step hB).alloc (.cells #[.int .u64 (ww3 C), .int .u64 (ww2 C), .int .u64 (ww1 C), .int .u64 (ww0 C)] 28)
            replace BM := (BM.step hB).alloc (.cells #[.int .u64 (ww3 C), .int .u64 (ww2 C), .int .u64 (ww1 C), .int .u64 (ww0 C)] 28)
            have BT := Blk.new w9 [.int .u64 (ww3 C), .int .u64 (ww2 C), .int .u64 (ww1 C), .int .u64 (ww0 C)] 28 rfl
            clear hB BA BB bm0 bm1 ba0 ba1 bb0 bb1 E1
            go_upto_region 10 with fail
            generalize w9.alloc (.cells #[.int .u64 (ww3 C), .int .u64 (ww2 C), .int .u64 (ww1 C), .int .u64 (ww0 C)] 28) = W9 at *
            generalize w9.heap.size = gT at *
            go_region_held3 (fun w' => w'.cell? ⟨gT, 0, none⟩ = some (.int .u64 (ww3 C)) ∧ w'.cell? ⟨gT, 1, none⟩ = some (.int .u64 (ww2 C)) ∧ w'.cell? ⟨gT, 2, none⟩ = some (.int .u64 (ww1 C)) ∧ w'.cell? ⟨gT, 3, none⟩ = some (.int .u64 (ww0 C)) ∧ w'.cell? ⟨gM, 0, none⟩ = some (.int .i64 m) ∧ w'.cell? ⟨gM, 1, none⟩ = some (.int .i64 n)) (first | (with_reducible exact nt_cells BT BM) | (with_reducible exact nt_cells BT.drew BM.drew) | (with_reducible exact nt_cells8 BT BM (by omega) (by omega)))
              (first
                | (go_at_call 86; refine (E3 _).mono ?_; rintro e k1 ⟨rfl, hB⟩; (first | (replace BT := BT.step hB; replace BM := BM.step hB; replace T0 := T0.step hB) | (replace BT := BT.drew.step hB; replace BM := BM.drew.step hB; replace T0 := T0.drew.step hB)); clear hB)
                | (go_at_call 85; refine (E4 _).mono ?_; rintro e k2 ⟨rfl, hB⟩; (first | (replace BT := BT.step hB; replace BM := BM.step hB; replace T0 := T0.step hB) | (replace BT := BT.drew.step hB; replace BM := BM.drew.step hB; replace T0 := T0.drew.step hB)); clear hB)
                | (go_at_call 101; refine (D6 _).mono ?_; rintro e k3 ⟨rfl, hB⟩; (first | (replace BT := BT.step hB; replace BM := BM.step hB; replace T0 := T0.step hB) | (replace BT := BT.drew.step hB; replace BM := BM.drew.step hB; replace T0 := T0.drew.step hB)); clear hB)
                | (go_at_call 103; refine (E2 _).mono ?_; rintro e k4 ⟨rfl, hB⟩; (first | (replace BT := BT.step hB; replace BM := BM.step hB; replace T0 := T0.step hB) | (replace BT := BT.drew.step hB; replace BM := BM.drew.step hB; replace T0 := T0.drew.step hB)); clear hB)
                | (go_at_call 102; refine (E5 _).mono ?_; rintro e k5 ⟨rfl, hB⟩; (first | (replace BT := BT.step hB; replace BM := BM.step hB; replace T0 := T0.step hB) | (replace BT := BT.drew.step hB; replace BM := BM.drew.step hB; replace T0 := T0.drew.step hB)); clear hB; have o0 := (T0.b 2 rfl).c 0 rfl; have r0 := (T0.b 2 rfl).f 0 rfl; have o1 := (T0.b 2 rfl).c 1 rfl; have r1 := (T0.b 2 rfl).f 1 rfl; have o2 := (T0.b 2 rfl).c 2 rfl; have r2 := (T0.b 2 rfl).f 2 rfl; have o3 := (T0.b 2 rfl).c 3 rfl; have r3 := (T0.b 2 rfl).f 3 rfl; have o4 := (T0.b 2 rfl).c 4 rfl; have r4 := (T0.b 2 rfl).f 4 rfl; have o5 := (T0.b 2 rfl).c 5 rfl; have r5 := (T0.b 2 rfl).f 5 rfl; have o6 := (T0.b 2 rfl).c 6 rfl; have r6 := (T0.b 2 rfl).f 6 rfl; have o7 := (T0.b 2 rfl).c 7 rfl; have r7 := (T0.b 2 rfl).f 7 rfl; have olt := (T0.b 2 rfl).lt))
            all_goals have HB := T0.below
            all_goals clear BM BT T0
            all_goals go_wp2
            all_goals refine bodyPost_ret (v := .tuple #[.agg #[.int .u64 z0, .int .u64 z1, .int .u64 z2, .int .u64 z3, .int .u64 z4, .int .u64 z5, .int .u64 z6, .int .u64 z7], .bool f]) (by simp [results, Try.results44, go_sem, o0, o1, o2, o3, o4, o5, o6, o7]) rfl ?_
            all_goals refine ⟨by rw [HO.out], ?_⟩
            all_goals repeat' (refine Below.setCell ?_ (by simp; try omega) _)
            all_goals first | exact HB | exact HB.drew
    · replace hp := Bool.eq_false_iff.2 hp
      rw [hp]
      have HO : Hid (nearV a b c d x y = .tuple #[.agg #[.int .u64 0, .int .u64 0, .int .u64 0, .int .u64 0, .int .u64 0, .int .u64 0, .int .u64 0, .int .u64 0], .bool false]) := by show _ = _; unfold nearV; rw [hp]; simp
      have o0 := (T0.b 2 rfl).c 0 rfl; have r0 := (T0.b 2 rfl).f 0 rfl; have o1 := (T0.b 2 rfl).c 1 rfl; have r1 := (T0.b 2 rfl).f 1 rfl; have o2 := (T0.b 2 rfl).c 2 rfl; have r2 := (T0.b 2 rfl).f 2 rfl; have o3 := (T0.b 2 rfl).c 3 rfl; have r3 := (T0.b 2 rfl).f 3 rfl; have o4 := (T0.b 2 rfl).c 4 rfl; have r4 := (T0.b 2 rfl).f 4 rfl; have o5 := (T0.b 2 rfl).c 5 rfl; have r5 := (T0.b 2 rfl).f 5 rfl; have o6 := (T0.b 2 rfl).c 6 rfl; have r6 := (T0.b 2 rfl).f 6 rfl; have o7 := (T0.b 2 rfl).c 7 rfl; have r7 := (T0.b 2 rfl).f 7 rfl; have olt := (T0.b 2 rfl).lt
      have HB := T0.below
      clear T0
      go_wp2
      refine bodyPost_ret (v := .tuple #[.agg #[.int .u64 0, .int .u64 0, .int .u64 0, .int .u64 0, .int .u64 0, .int .u64 0, .int .u64 0, .int .u64 0], .bool false]) (by simp [results, Try.results44, go_sem, o0, o1, o2, o3, o4, o5, o6, o7]) rfl ?_
      refine ⟨by rw [HO.out], ?_⟩
      repeat' (refine Below.setCell ?_ (by simp; try omega) _)
      exact HB
  · replace hs := Bool.eq_false_iff.2 hs
    rw [hs]
    have HO : Hid (nearV a b c d x y = .tuple #[.agg #[.int .u64 0, .int .u64 0, .int .u64 0, .int .u64 0, .int .u64 0, .int .u64 0, .int .u64 0, .int .u64 0], .bool false]) := by show _ = _; unfold nearV; rw [hs]; simp
    have o0 := (T0.b 2 rfl).c 0 rfl; have r0 := (T0.b 2 rfl).f 0 rfl; have o1 := (T0.b 2 rfl).c 1 rfl; have r1 := (T0.b 2 rfl).f 1 rfl; have o2 := (T0.b 2 rfl).c 2 rfl; have r2 := (T0.b 2 rfl).f 2 rfl; have o3 := (T0.b 2 rfl).c 3 rfl; have r3 := (T0.b 2 rfl).f 3 rfl; have o4 := (T0.b 2 rfl).c 4 rfl; have r4 := (T0.b 2 rfl).f 4 rfl; have o5 := (T0.b 2 rfl).c 5 rfl; have r5 := (T0.b 2 rfl).f 5 rfl; have o6 := (T0.b 2 rfl).c 6 rfl; have r6 := (T0.b 2 rfl).f 6 rfl; have o7 := (T0.b 2 rfl).c 7 rfl; have r7 := (T0.b 2 rfl).f 7 rfl; have olt := (T0.b 2 rfl).lt
    have HB := T0.below
    clear T0
    go_wp2
    refine bodyPost_ret (v := .tuple #[.agg #[.int .u64 0, .int .u64 0, .int .u64 0, .int .u64 0, .int .u64 0, .int .u64 0, .int .u64 0, .int .u64 0], .bool false]) (by simp [results, Try.results44, go_sem, o0, o1, o2, o3, o4, o5, o6, o7]) rfl ?_
    refine ⟨by rw [HO.out], ?_⟩
    repeat' (refine Below.setCell ?_ (by simp; try omega) _)
    exact HB
end Go.Proofs.Ytckbhihdhcgaeaa
