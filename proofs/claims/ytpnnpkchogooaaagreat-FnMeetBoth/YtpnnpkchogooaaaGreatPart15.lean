/- Part 15 of the walks that the proof leans on. -/
import Derived.Test.YtpnnpkchogooaaaGreatPart14
import Derived.Test.YtpnnpkchogooaaaGreatPart8
import Derived.Test.YtpnnpkchogooaaaGreatPart10
set_option maxRecDepth 100000
set_option maxHeartbeats 8000000
namespace Go.Proofs.YtpnnpkchogooaaaGreat
open Go.RowKit
theorem put24_ret {P : Program} {f : Func} {post : Ending → World → Prop} {ex : Exit} {act : Act} {w W : World} {g g' : Nat} {z0 z1 z2 z3 z4 z5 z6 z7 z8 z9 z10 z11 y0 y1 y2 y3 y4 y5 y6 y7 y8 y9 y10 y11 v0 v1 v2 v3 v4 v5 v6 v7 v8 v9 v10 v11 u0 u1 u2 u3 u4 u5 u6 u7 u8 u9 u10 u11 : Value} (BP : Blk W g [z0, z1, z2, z3, z4, z5, z6, z7, z8, z9, z10, z11]) (BQ : Blk W g' [y0, y1, y2, y3, y4, y5, y6, y7, y8, y9, y10, y11]) (hne : g ≠ g') (hg : w.heap.size ≤ g) (hg' : w.heap.size ≤ g') (HB : Below w.heap.size w W)
   (h : ∀ WF, Blk WF g [v0, v1, v2, v3, v4, v5, v6, v7, v8, v9, v10, v11] → Blk WF g' [u0, u1, u2, u3, u4, u5, u6, u7, u8, u9, u10, u11] → Below w.heap.size w WF → bodyPost P f post ex act WF) : bodyPost P f post ex act ((((((((((((((((((((((((W.setCell ⟨g, 0, none⟩ v0).setCell ⟨g, 1, none⟩ v1).setCell ⟨g, 2, none⟩ v2).setCell ⟨g, 3, none⟩ v3).setCell ⟨g, 4, none⟩ v4).setCell ⟨g, 5, none⟩ v5).setCell ⟨g, 6, none⟩ v6).setCell ⟨g, 7, none⟩ v7).setCell ⟨g, 8, none⟩ v8).setCell ⟨g, 9, none⟩ v9).setCell ⟨g, 10, none⟩ v10).setCell ⟨g, 11, none⟩ v11).setCell ⟨g', 0, none⟩ u0).setCell ⟨g', 1, none⟩ u1).setCell ⟨g', 2, none⟩ u2).setCell ⟨g', 3, none⟩ u3).setCell ⟨g', 4, none⟩ u4).setCell ⟨g', 5, none⟩ u5).setCell ⟨g', 6, none⟩ u6).setCell ⟨g', 7, none⟩ u7).setCell ⟨g', 8, none⟩ u8).setCell ⟨g', 9, none⟩ u9).setCell ⟨g', 10, none⟩ u10).setCell ⟨g', 11, none⟩ u11) :=
 h _ ((BP.stored12 v0 v1 v2 v3 v4 v5 v6 v7 v8 v9 v10 v11).set12 hne) ((BQ.set12 (Ne.symm hne)).stored12 u0 u1 u2 u3 u4 u5 u6 u7 u8 u9 u10 u11) (Below.set12 hg' (Below.set12 hg HB))
theorem eqSp (x y u v : Int) (w : World) : (Op.equalIn 10000 25 (Sp x y) (Sp u v)).run Tryz.prog w = .ok (decide (x = u) && decide (y = v)) w := by
 have u3 := Tryz.underlying2
 have a3 := Tryz.isAgg2
 have z3 := Tryz.sizeOf2
 rw [show (10000 : Nat) = 9999 + 1 from rfl, Op.equalIn]
 simp only [Sem.run_bind, run_underlying Tryz.underlying25, Result.andThen_ok]
 go_simp
 by_cases h1 : x = u
 · by_cases h2 : y = v
   · simp [h1, h2]
   · simp [h1, h2]
 · simp [h1]
theorem pointOfI (x y : Int) (hx : In1 x) (hy : In1 y) (w : World) : Calls Tryz.prog 11 #[Sp x y] w (VP (.agg #[.int .u64 (ww3 x), .int .u64 (ww2 x), .int .u64 (ww1 x), .int .u64 (ww0 x), .int .u64 (ww3 y), .int .u64 (ww2 y), .int .u64 (ww1 y), .int .u64 (ww0 y), .int .u64 (ww3 1), .int .u64 (ww2 1), .int .u64 (ww1 1), .int .u64 (ww0 1)]) w) := implPointOf_any x y (by omega) (by omega) (by omega) (by omega) w
def alongV (a b c d p q u v : Int) : Value :=
 if turnZ a b c d p q ≠ 0 ∨ lessI (if lessI u v c d = true then u else c) (if lessI u v c d = true then v else d) (if lessI a b p q = true then p else a) (if lessI a b p q = true then q else b) = true then .tuple #[.int .i64 0, .agg #[.int .u64 0, .int .u64 0, .int .u64 0, .int .u64 0, .int .u64 0, .int .u64 0, .int .u64 0, .int .u64 0, .int .u64 0, .int .u64 0, .int .u64 0, .int .u64 0], .agg #[.int .u64 0, .int .u64 0, .int .u64 0, .int .u64 0, .int .u64 0, .int .u64 0, .int .u64 0, .int .u64 0, .int .u64 0, .int .u64 0, .int .u64 0, .int .u64 0]]
 else if (if lessI a b p q = true then p else a) = (if lessI u v c d = true then u else c) ∧ (if lessI a b p q = true then q else b) = (if lessI u v c d = true then v else d) then .tuple #[.int .i64 1, .agg #[.int .u64 (ww3 (if lessI a b p q = true then p else a)), .int .u64 (ww2 (if lessI a b p q = true then p else a)), .int .u64 (ww1 (if lessI a b p q = true then p else a)), .int .u64 (ww0 (if lessI a b p q = true then p else a)), .int .u64 (ww3 (if lessI a b p q = true then q else b)), .int .u64 (ww2 (if lessI a b p q = true then q else b)), .int .u64 (ww1 (if lessI a b p q = true then q else b)), .int .u64 (ww0 (if lessI a b p q = true then q else b)), .int .u64 (ww3 1), .int .u64 (ww2 1), .int .u64 (ww1 1), .int .u64 (ww0 1)], .agg #[.int .u64 0, .int .u64 0, .int .u64 0, .int .u64 0, .int .u64 0, .int .u64 0, .int .u64 0, .int .u64 0, .int .u64 0, .int .u64 0, .int .u64 0, .int .u64 0]]
 else .tuple #[.int .i64 2, .agg #[.int .u64 (ww3 (if lessI a b p q = true then p else a)), .int .u64 (ww2 (if lessI a b p q = true then p else a)), .int .u64 (ww1 (if lessI a b p q = true then p else a)), .int .u64 (ww0 (if lessI a b p q = true then p else a)), .int .u64 (ww3 (if lessI a b p q = true then q else b)), .int .u64 (ww2 (if lessI a b p q = true then q else b)), .int .u64 (ww1 (if lessI a b p q = true then q else b)), .int .u64 (ww0 (if lessI a b p q = true then q else b)), .int .u64 (ww3 1), .int .u64 (ww2 1), .int .u64 (ww1 1), .int .u64 (ww0 1)], .agg #[.int .u64 (ww3 (if lessI u v c d = true then u else c)), .int .u64 (ww2 (if lessI u v c d = true then u else c)), .int .u64 (ww1 (if lessI u v c d = true then u else c)), .int .u64 (ww0 (if lessI u v c d = true then u else c)), .int .u64 (ww3 (if lessI u v c d = true then v else d)), .int .u64 (ww2 (if lessI u v c d = true then v else d)), .int .u64 (ww1 (if lessI u v c d = true then v else d)), .int .u64 (ww0 (if lessI u v c d = true then v else d)), .int .u64 (ww3 1), .int .u64 (ww2 1), .int .u64 (ww1 1), .int .u64 (ww0 1)]]
def AlS (w W : World) (gF gL : Nat) (a b c d p q u v fx fy lx ly : Int) : Prop := Blk W w.heap.size [.int .i64 a, .int .i64 b, .int .i64 c, .int .i64 d] ∧ Blk W (w.heap.size + 1) [.int .i64 p, .int .i64 q, .int .i64 u, .int .i64 v] ∧ Blk W (w.heap.size + 1 + 1) [.int .u64 0, .int .u64 0, .int .u64 0, .int .u64 0, .int .u64 0, .int .u64 0, .int .u64 0, .int .u64 0, .int .u64 0, .int .u64 0, .int .u64 0, .int .u64 0] ∧ Blk W (w.heap.size + 1 + 1 + 1) [.int .u64 0, .int .u64 0, .int .u64 0, .int .u64 0, .int .u64 0, .int .u64 0, .int .u64 0, .int .u64 0, .int .u64 0, .int .u64 0, .int .u64 0, .int .u64 0] ∧ Blk W gF [.int .i64 fx, .int .i64 fy] ∧ Blk W gL [.int .i64 lx, .int .i64 ly] ∧ Below w.heap.size w W
theorem CutG.drew {w wx : World} {vss : List (List Value)} {us vs : List Value} {p q : Value} (h : CutG w wx vss us vs p q) : CutG w wx.drew vss us vs p q := by
 obtain ⟨g, g', h1, h2, h3, h4, h5, T, G, G'⟩ := h
 exact ⟨g, g', h1, h2, h3, h4, h5, T.drew, G.drew, G'.drew⟩
theorem al_cells {x y u v : Int} {W : World} {gF gL : Nat} (BF : Blk W gF [.int .i64 x, .int .i64 y]) (BL : Blk W gL [.int .i64 u, .int .i64 v]) : (fun w' => w'.cell? ⟨gF, 0, none⟩ = some (.int .i64 x) ∧ w'.cell? ⟨gF, 1, none⟩ = some (.int .i64 y) ∧ w'.cell? ⟨gL, 0, none⟩ = some (.int .i64 u) ∧ w'.cell? ⟨gL, 1, none⟩ = some (.int .i64 v)) W := ⟨BF.c 0 rfl, BF.c 1 rfl, BL.c 0 rfl, BL.c 1 rfl⟩
theorem ml_cells {a b c d p q u v : Int} {w W : World} (T0 : ArgsB w W [[.int .i64 a, .int .i64 b, .int .i64 c, .int .i64 d], [.int .i64 p, .int .i64 q, .int .i64 u, .int .i64 v], [.int .u64 0, .int .u64 0, .int .u64 0, .int .u64 0, .int .u64 0, .int .u64 0, .int .u64 0, .int .u64 0, .int .u64 0, .int .u64 0, .int .u64 0, .int .u64 0], [.int .u64 0, .int .u64 0, .int .u64 0, .int .u64 0, .int .u64 0, .int .u64 0, .int .u64 0, .int .u64 0, .int .u64 0, .int .u64 0, .int .u64 0, .int .u64 0]]) : (fun w' => w'.cell? ⟨w.heap.size, 0, none⟩ = some (.int .i64 a) ∧ w'.cell? ⟨w.heap.size, 1, none⟩ = some (.int .i64 b) ∧ w'.cell? ⟨w.heap.size, 2, none⟩ = some (.int .i64 c) ∧ w'.cell? ⟨w.heap.size, 3, none⟩ = some (.int .i64 d) ∧ w'.cell? ⟨w.heap.size + 1, 0, none⟩ = some (.int .i64 p) ∧ w'.cell? ⟨w.heap.size + 1, 1, none⟩ = some (.int .i64 q) ∧ w'.cell? ⟨w.heap.size + 1, 2, none⟩ = some (.int .i64 u) ∧ w'.cell? ⟨w.heap.size + 1, 3, none⟩ = some (.int .i64 v)) W := ⟨(T0.b 0 rfl).c 0 rfl, (T0.b 0 rfl).c 1 rfl, (T0.b 0 rfl).c 2 rfl, (T0.b 0 rfl).c 3 rfl, (T0.b 1 rfl).c 0 rfl, (T0.b 1 rfl).c 1 rfl, (T0.b 1 rfl).c 2 rfl, (T0.b 1 rfl).c 3 rfl⟩
theorem meetAlong_det (a b c d p q u v : Int) (ha : In1 a) (hb : In1 b) (hc : In1 c) (hd : In1 d) (hp : In1 p) (hq : In1 q) (hu : In1 u) (hv : In1 v) (w : World) : Calls Tryz.prog 84 #[Sg a b c d, Sg p q u v] w (VP (alongV a b c d p q u v) w) := by
 have TT := turnToZ_det a b c d p q ha hb hc hd hp hq
 have T0 : ArgsB w ((((w.alloc (.cells #[.int .i64 a, .int .i64 b, .int .i64 c, .int .i64 d] 27)).alloc (.cells #[.int .i64 p, .int .i64 q, .int .i64 u, .int .i64 v] 27)).alloc (.cells #[.int .u64 0, .int .u64 0, .int .u64 0, .int .u64 0, .int .u64 0, .int .u64 0, .int .u64 0, .int .u64 0, .int .u64 0, .int .u64 0, .int .u64 0, .int .u64 0] 40)).alloc (.cells #[.int .u64 0, .int .u64 0, .int .u64 0, .int .u64 0, .int .u64 0, .int .u64 0, .int .u64 0, .int .u64 0, .int .u64 0, .int .u64 0, .int .u64 0, .int .u64 0] 40)) [[.int .i64 a, .int .i64 b, .int .i64 c, .int .i64 d], [.int .i64 p, .int .i64 q, .int .i64 u, .int .i64 v], [.int .u64 0, .int .u64 0, .int .u64 0, .int .u64 0, .int .u64 0, .int .u64 0, .int .u64 0, .int .u64 0, .int .u64 0, .int .u64 0, .int .u64 0, .int .u64 0], [.int .u64 0, .int .u64 0, .int .u64 0, .int .u64 0, .int .u64 0, .int .u64 0, .int .u64 0, .int .u64 0, .int .u64 0, .int .u64 0, .int .u64 0, .int .u64 0]] := ar4 _ _ _ _ _ _ _ _ w
 go_enter Tryz.func84, Tryz.ntmps84
 go_upto_region 1 with fail
 generalize ((((w.alloc (.cells #[.int .i64 a, .int .i64 b, .int .i64 c, .int .i64 d] 27)).alloc (.cells #[.int .i64 p, .int .i64 q, .int .i64 u, .int .i64 v] 27)).alloc (.cells #[.int .u64 0, .int .u64 0, .int .u64 0, .int .u64 0, .int .u64 0, .int .u64 0, .int .u64 0, .int .u64 0, .int .u64 0, .int .u64 0, .int .u64 0, .int .u64 0] 40)).alloc (.cells #[.int .u64 0, .int .u64 0, .int .u64 0, .int .u64 0, .int .u64 0, .int .u64 0, .int .u64 0, .int .u64 0, .int .u64 0, .int .u64 0, .int .u64 0, .int .u64 0] 40)) = W at *
 have hl0 : w.heap.size + ([[.int .i64 a, .int .i64 b, .int .i64 c, .int .i64 d], [.int .i64 p, .int .i64 q, .int .i64 u, .int .i64 v], [.int .u64 0, .int .u64 0, .int .u64 0, .int .u64 0, .int .u64 0, .int .u64 0, .int .u64 0, .int .u64 0, .int .u64 0, .int .u64 0, .int .u64 0, .int .u64 0], [.int .u64 0, .int .u64 0, .int .u64 0, .int .u64 0, .int .u64 0, .int .u64 0, .int .u64 0, .int .u64 0, .int .u64 0, .int .u64 0, .int .u64 0, .int .u64 0]] : List (List Value)).length ≤ W.heap.size := (T0.b 3 rfl).lt
 have hl1 : w.heap.size + ([[.int .i64 a, .int .i64 b, .int .i64 c, .int .i64 d], [.int .i64 p, .int .i64 q, .int .i64 u, .int .i64 v], [.int .u64 0, .int .u64 0, .int .u64 0, .int .u64 0, .int .u64 0, .int .u64 0, .int .u64 0, .int .u64 0, .int .u64 0, .int .u64 0, .int .u64 0, .int .u64 0], [.int .u64 0, .int .u64 0, .int .u64 0, .int .u64 0, .int .u64 0, .int .u64 0, .int .u64 0, .int .u64 0, .int .u64 0, .int .u64 0, .int .u64 0, .int .u64 0]] : List (List Value)).length ≤ W.drew.heap.size := hl0
 go_cut [7, 8] (fun p' q' wx => CutG w wx [[.int .i64 a, .int .i64 b, .int .i64 c, .int .i64 d], [.int .i64 p, .int .i64 q, .int .i64 u, .int .i64 v], [.int .u64 0, .int .u64 0, .int .u64 0, .int .u64 0, .int .u64 0, .int .u64 0, .int .u64 0, .int .u64 0, .int .u64 0, .int .u64 0, .int .u64 0, .int .u64 0], [.int .u64 0, .int .u64 0, .int .u64 0, .int .u64 0, .int .u64 0, .int .u64 0, .int .u64 0, .int .u64 0, .int .u64 0, .int .u64 0, .int .u64 0, .int .u64 0]] [.int .i64 a, .int .i64 b] [.int .i64 c, .int .i64 d] p' q')
 case first =>
   go_region_held3 (fun w' => w'.cell? ⟨w.heap.size, 0, none⟩ = some (.int .i64 a) ∧ w'.cell? ⟨w.heap.size, 1, none⟩ = some (.int .i64 b) ∧ w'.cell? ⟨w.heap.size, 2, none⟩ = some (.int .i64 c) ∧ w'.cell? ⟨w.heap.size, 3, none⟩ = some (.int .i64 d) ∧ w'.cell? ⟨w.heap.size + 1, 0, none⟩ = some (.int .i64 p) ∧ w'.cell? ⟨w.heap.size + 1, 1, none⟩ = some (.int .i64 q) ∧ w'.cell? ⟨w.heap.size + 1, 2, none⟩ = some (.int .i64 u) ∧ w'.cell? ⟨w.heap.size + 1, 3, none⟩ = some (.int .i64 v)) ((refine ml_cells ?_ <;> repeat (first | (with_reducible exact T0) | (with_reducible refine ArgsB.drew ?_) | (with_reducible refine ArgsB.alloc ?_ _) | (with_reducible refine ArgsB.set2 ?_ (by simp; omega) _ _))))
     (first | fail)
   all_goals go_wp2_with fail
   all_goals go_meet
   all_goals first | (with_reducible exact cutG_nn T0 hl0) | (with_reducible exact cutG_nn' T0 hl0) | (with_reducible exact (cutG_nn T0 hl0).drew) | (with_reducible exact (cutG_nn' T0 hl0).drew) | (with_reducible exact cutG_nn T0.drew hl1) | (with_reducible exact cutG_nn' T0.drew hl1)
 case rest =>
   clear T0 hl0 hl1
   obtain ⟨gF, gL, hp', hq', hne, hgF, hgL, T0, BF, BL⟩ := hcut
   subst hp'; subst hq'
   simp only [List.length_cons, List.length_nil] at hgF hgL
   have BS : Blk _ w.heap.size _ := T0.b 0 rfl; have BT : Blk _ (w.heap.size + 1) _ := T0.b 1 rfl; have BP : Blk _ (w.heap.size + 1 + 1) _ := T0.b 2 rfl; have BQ : Blk _ (w.heap.size + 1 + 1 + 1) _ := T0.b 3 rfl; have HB := T0.below
   clear T0
   obtain ⟨fx, hfx⟩ : ∃ t, (if lessI a b p q = true then p else a) = t := ⟨_, rfl⟩
   obtain ⟨fy, hfy⟩ : ∃ t, (if lessI a b p q = true then q else b) = t := ⟨_, rfl⟩
   obtain ⟨lx, hlx⟩ : ∃ t, (if lessI u v c d = true then u else c) = t := ⟨_, rfl⟩
   obtain ⟨ly, hly⟩ : ∃ t, (if lessI u v c d = true then v else d) = t := ⟨_, rfl⟩
   have ifx : In1 fx := by rw [← hfx]; split <;> assumption
   have ify : In1 fy := by rw [← hfy]; split <;> assumption
   have ilx : In1 lx := by rw [← hlx]; split <;> assumption
   have ily : In1 ly := by rw [← hly]; split <;> assumption
   have HFX : Hid ((if lessI a b p q = true then p else a) = fx) := hfx
   have HFY : Hid ((if lessI a b p q = true then q else b) = fy) := hfy
   have HLX : Hid ((if lessI u v c d = true then u else c) = lx) := hlx
   have HLY : Hid ((if lessI u v c d = true then v else d) = ly) := hly
   clear hfx hfy hlx hly
   go_upto_region 2 with fail
   go_cut [16] (fun z' wx => z' = .bool (lessI a b p q) ∧ AlS w wx gF gL a b c d p q u v a b c d)
   case first =>
     obtain ⟨sc0, sc1, sc2, sc3⟩ := BS.cs4; have sl := BS.lt; obtain ⟨tc0, tc1, tc2, tc3⟩ := BT.cs4; have tl := BT.lt; obtain ⟨fc0, ff0, fc1, ff1⟩ := BF.cf2; have fl := BF.lt; obtain ⟨lc0, lf0, lc1, lf1⟩ := BL.cf2; have ll := BL.lt
     go_wp2_with fail
     refine (isAhead_any a b p q _ rfl _).mono ?_
     rintro e w11 ⟨rfl, hB⟩
     go_wp2_with fail
     go_meet
     exact ⟨rfl, BS.step hB, BT.step hB, BP.step hB, BQ.step hB, BF.step hB, BL.step hB, HB.trans (hB.mono HB.size)⟩
   case rest =>
     clear BS BT BP BQ BF BL HB
     obtain ⟨hq', BS, BT, BP, BQ, BF, BL, HB⟩ := hcut
     subst hq'
     generalize wc = w11c at *
     rename_i hk
     refine hk _ _ ?_
     go_cut [] (fun wx => AlS w wx gF gL a b c d p q u v fx fy c d)
     case first =>
       by_cases h1 : lessI a b p q = true
       · rw [h1]
         have e1 : fx = p := by rw [← HFX.out, if_pos h1]
         have e2 : fy = q := by rw [← HFY.out, if_pos h1]
         clear h1
         obtain ⟨sc0, sc1, sc2, sc3⟩ := BS.cs4; have sl := BS.lt; obtain ⟨tc0, tc1, tc2, tc3⟩ := BT.cs4; have tl := BT.lt; obtain ⟨fc0, ff0, fc1, ff1⟩ := BF.cf2; have fl := BF.lt; obtain ⟨lc0, lf0, lc1, lf1⟩ := BL.cf2; have ll := BL.lt
         go_wp2_with fail
         go_meet
         rw [e1, e2]
         exact ⟨BS.set2 (by omega), BT.set2 (by omega), BP.set2 (by omega), BQ.set2 (by omega), BF.stored2 _ _, BL.set2 (by omega), Below.setCell (Below.setCell HB (by show _ ≤ gF; omega) _) (by show _ ≤ gF; omega) _⟩
       · have h1' := Bool.eq_false_iff.2 h1
         have e1 : fx = a := by rw [← HFX.out, if_neg h1]
         have e2 : fy = b := by rw [← HFY.out, if_neg h1]
         rw [h1']
         clear h1 h1'
         go_wp2_with fail
         go_meet
         rw [e1, e2]
         exact ⟨BS, BT, BP, BQ, BF, BL, HB⟩
     case rest =>
       clear BS BT BP BQ BF BL HB
       obtain ⟨BS, BT, BP, BQ, BF, BL, HB⟩ := hcut
       generalize wc = w11d at *
       go_upto_region 4 with fail
       go_cut [22] (fun z' wx => z' = .bool (lessI u v c d) ∧ AlS w wx gF gL a b c d p q u v fx fy c d)
       case first =>
         obtain ⟨sc0, sc1, sc2, sc3⟩ := BS.cs4; have sl := BS.lt; obtain ⟨tc0, tc1, tc2, tc3⟩ := BT.cs4; have tl := BT.lt; obtain ⟨fc0, ff0, fc1, ff1⟩ := BF.cf2; have fl := BF.lt; obtain ⟨lc0, lf0, lc1, lf1⟩ := BL.cf2; have ll := BL.lt
         go_wp2_with fail
         refine (isAhead_any u v c d _ rfl _).mono ?_
         rintro e w12 ⟨rfl, hB⟩
         go_wp2_with fail
         go_meet
         exact ⟨rfl, BS.step hB, BT.step hB, BP.step hB, BQ.step hB, BF.step hB, BL.step hB, HB.trans (hB.mono HB.size)⟩
       case rest =>
         clear BS BT BP BQ BF BL HB
         obtain ⟨hq', BS, BT, BP, BQ, BF, BL, HB⟩ := hcut
         subst hq'
         generalize wc = w12c at *
         rename_i hk
         refine hk _ _ ?_
         go_cut [] (fun wx => AlS w wx gF gL a b c d p q u v fx fy lx ly)
         case first =>
           by_cases h1 : lessI u v c d = true
           · rw [h1]
             have e1 : lx = u := by rw [← HLX.out, if_pos h1]
             have e2 : ly = v := by rw [← HLY.out, if_pos h1]
             clear h1
             obtain ⟨sc0, sc1, sc2, sc3⟩ := BS.cs4; have sl := BS.lt; obtain ⟨tc0, tc1, tc2, tc3⟩ := BT.cs4; have tl := BT.lt; obtain ⟨fc0, ff0, fc1, ff1⟩ := BF.cf2; have fl := BF.lt; obtain ⟨lc0, lf0, lc1, lf1⟩ := BL.cf2; have ll := BL.lt
             go_wp2_with fail
             go_meet
             rw [e1, e2]
             exact ⟨BS.set2 (by omega), BT.set2 (by omega), BP.set2 (by omega), BQ.set2 (by omega), BF.set2 (by omega), BL.stored2 _ _, Below.setCell (Below.setCell HB (by show _ ≤ gL; omega) _) (by show _ ≤ gL; omega) _⟩
           · have h1' := Bool.eq_false_iff.2 h1
             have e1 : lx = c := by rw [← HLX.out, if_neg h1]
             have e2 : ly = d := by rw [← HLY.out, if_neg h1]
             rw [h1']
             clear h1 h1'
             go_wp2_with fail
             go_meet
             rw [e1, e2]
             exact ⟨BS, BT, BP, BQ, BF, BL, HB⟩
         case rest =>
           clear BS BT BP BQ BF BL HB
           obtain ⟨BS, BT, BP, BQ, BF, BL, HB⟩ := hcut
           generalize wc = w12d at *
           obtain ⟨sc0, sc1, sc2, sc3⟩ := BS.cs4; have sl := BS.lt; obtain ⟨tc0, tc1, tc2, tc3⟩ := BT.cs4; have tl := BT.lt; obtain ⟨fc0, ff0, fc1, ff1⟩ := BF.cf2; have fl := BF.lt; obtain ⟨lc0, lf0, lc1, lf1⟩ := BL.cf2; have ll := BL.lt
           go_wp2_with fail
           refine (TT _).mono ?_
           rintro e w16 ⟨rfl, hB⟩
           replace BS := BS.step hB
           replace BT := BT.step hB
           replace BF := BF.step hB
           replace BL := BL.step hB
           replace BP := BP.step hB
           replace BQ := BQ.step hB
           replace HB := HB.trans (hB.mono HB.size)
           clear hB sc0 sc1 sc2 sc3 sl tc0 tc1 tc2 tc3 tl fc0 ff0 fc1 ff1 fl lc0 lf0 lc1 lf1 ll
           by_cases hT : turnZ a b c d p q = 0
           · have hT' : (turnZ a b c d p q == 0) = true := by simpa using hT
             have hT2 : (turnZ a b c d p q != 0) = false := by simp [hT]
             obtain ⟨sc0, sc1, sc2, sc3⟩ := BS.cs4; have sl := BS.lt; obtain ⟨tc0, tc1, tc2, tc3⟩ := BT.cs4; have tl := BT.lt; obtain ⟨fc0, ff0, fc1, ff1⟩ := BF.cf2; have fl := BF.lt; obtain ⟨lc0, lf0, lc1, lf1⟩ := BL.cf2; have ll := BL.lt
             go_wp2_with fail
             refine (isAhead_any lx ly fx fy _ rfl _).mono ?_
             rintro e w17 ⟨rfl, hB⟩
             replace BS := BS.step hB
             replace BT := BT.step hB
             replace BF := BF.step hB
             replace BL := BL.step hB
             replace BP := BP.step hB
             replace BQ := BQ.step hB
             replace HB := HB.trans (hB.mono HB.size)
             clear hB sc0 sc1 sc2 sc3 sl tc0 tc1 tc2 tc3 tl fc0 ff0 fc1 ff1 fl lc0 lf0 lc1 lf1 ll
             by_cases hA : lessI lx ly fx fy = true
             · rw [hA]
               have HO : Hid (alongV a b c d p q u v = .tuple #[.int .i64 0, .agg #[.int .u64 0, .int .u64 0, .int .u64 0, .int .u64 0, .int .u64 0, .int .u64 0, .int .u64 0, .int .u64 0, .int .u64 0, .int .u64 0, .int .u64 0, .int .u64 0], .agg #[.int .u64 0, .int .u64 0, .int .u64 0, .int .u64 0, .int .u64 0, .int .u64 0, .int .u64 0, .int .u64 0, .int .u64 0, .int .u64 0, .int .u64 0, .int .u64 0]]) := by show _ = _; unfold alongV; rw [HFX.out, HFY.out, HLX.out, HLY.out, if_pos (Or.inr hA)]
               clear hA hT hT' hT2 TT BS BT BF BL
               obtain ⟨xc0, xf0, xc1, xf1, xc2, xf2, xc3, xf3, xc4, xf4, xc5, xf5, xc6, xf6, xc7, xf7, xc8, xf8, xc9, xf9, xc10, xf10, xc11, xf11⟩ := BP.cf12; have xl := BP.lt; obtain ⟨yc0, yf0, yc1, yf1, yc2, yf2, yc3, yf3, yc4, yf4, yc5, yf5, yc6, yf6, yc7, yf7, yc8, yf8, yc9, yf9, yc10, yf10, yc11, yf11⟩ := BQ.cf12; have yl := BQ.lt
               go_wp2
               refine put24_ret BP BQ (by omega) (by omega) (by omega) HB fun WF F0 F1 HBF => ?_
               clear BP BQ HB xc0 xf0 xc1 xf1 xc2 xf2 xc3 xf3 xc4 xf4 xc5 xf5 xc6 xf6 xc7 xf7 xc8 xf8 xc9 xf9 xc10 xf10 xc11 xf11 xl yc0 yf0 yc1 yf1 yc2 yf2 yc3 yf3 yc4 yf4 yc5 yf5 yc6 yf6 yc7 yf7 yc8 yf8 yc9 yf9 yc10 yf10 yc11 yf11 yl
               obtain ⟨m0, m1, m2, m3, m4, m5, m6, m7, m8, m9, m10, m11⟩ := F0.cs12; obtain ⟨n0, n1, n2, n3, n4, n5, n6, n7, n8, n9, n10, n11⟩ := F1.cs12
               refine bodyPost_ret (v := .tuple #[.int .i64 0, .agg #[.int .u64 0, .int .u64 0, .int .u64 0, .int .u64 0, .int .u64 0, .int .u64 0, .int .u64 0, .int .u64 0, .int .u64 0, .int .u64 0, .int .u64 0, .int .u64 0], .agg #[.int .u64 0, .int .u64 0, .int .u64 0, .int .u64 0, .int .u64 0, .int .u64 0, .int .u64 0, .int .u64 0, .int .u64 0, .int .u64 0, .int .u64 0, .int .u64 0]]) (by simp [results, Tryz.results84, go_sem, m0, n0, m1, n1, m2, n2, m3, n3, m4, n4, m5, n5, m6, n6, m7, n7, m8, n8, m9, n9, m10, n10, m11, n11]) rfl ?_
               exact ⟨by rw [HO.out], by first | exact HBF | exact HBF.drew⟩
             · have hA' := Bool.eq_false_iff.2 hA
               rw [hA']
               have EQ := eqSp fx fy lx ly
               by_cases hE : fx = lx ∧ fy = ly
               · have HO : Hid (alongV a b c d p q u v = .tuple #[.int .i64 1, .agg #[.int .u64 (ww3 fx), .int .u64 (ww2 fx), .int .u64 (ww1 fx), .int .u64 (ww0 fx), .int .u64 (ww3 fy), .int .u64 (ww2 fy), .int .u64 (ww1 fy), .int .u64 (ww0 fy), .int .u64 (ww3 1), .int .u64 (ww2 1), .int .u64 (ww1 1), .int .u64 (ww0 1)], .agg #[.int .u64 0, .int .u64 0, .int .u64 0, .int .u64 0, .int .u64 0, .int .u64 0, .int .u64 0, .int .u64 0, .int .u64 0, .int .u64 0, .int .u64 0, .int .u64 0]]) := by show _ = _; unfold alongV; rw [HFX.out, HFY.out, HLX.out, HLY.out, if_neg (by rw [hA']; rintro (h | h); exact h hT; cases h), if_pos hE]
                 rw [show (decide (fx = lx) && decide (fy = ly)) = true by rw [hE.1, hE.2]; simp] at EQ
                 have PO := pointOfI fx fy (by omega) (by omega)
                 clear hA hA' hT hT' hT2 TT hE
                 obtain ⟨sc0, sc1, sc2, sc3⟩ := BS.cs4; have sl := BS.lt; obtain ⟨tc0, tc1, tc2, tc3⟩ := BT.cs4; have tl := BT.lt; obtain ⟨fc0, ff0, fc1, ff1⟩ := BF.cf2; have fl := BF.lt; obtain ⟨lc0, lf0, lc1, lf1⟩ := BL.cf2; have ll := BL.lt
                 go_wp2_with fail
                 refine (PO _).mono ?_
                 rintro e w18 ⟨rfl, hB⟩
                 replace BS := BS.step hB
                 replace BT := BT.step hB
                 replace BF := BF.step hB
                 replace BL := BL.step hB
                 replace BP := BP.step hB
                 replace BQ := BQ.step hB
                 replace HB := HB.trans (hB.mono HB.size)
                 clear hB sc0 sc1 sc2 sc3 sl tc0 tc1 tc2 tc3 tl fc0 ff0 fc1 ff1 fl lc0 lf0 lc1 lf1 ll
                 clear BS BT BF BL PO EQ
                 obtain ⟨xc0, xf0, xc1, xf1, xc2, xf2, xc3, xf3, xc4, xf4, xc5, xf5, xc6, xf6, xc7, xf7, xc8, xf8, xc9, xf9, xc10, xf10, xc11, xf11⟩ := BP.cf12; have xl := BP.lt; obtain ⟨yc0, yf0, yc1, yf1, yc2, yf2, yc3, yf3, yc4, yf4, yc5, yf5, yc6, yf6, yc7, yf7, yc8, yf8, yc9, yf9, yc10, yf10, yc11, yf11⟩ := BQ.cf12; have yl := BQ.lt
                 go_wp2
                 refine put24_ret BP BQ (by omega) (by omega) (by omega) HB fun WF F0 F1 HBF => ?_
                 clear BP BQ HB xc0 xf0 xc1 xf1 xc2 xf2 xc3 xf3 xc4 xf4 xc5 xf5 xc6 xf6 xc7 xf7 xc8 xf8 xc9 xf9 xc10 xf10 xc11 xf11 xl yc0 yf0 yc1 yf1 yc2 yf2 yc3 yf3 yc4 yf4 yc5 yf5 yc6 yf6 yc7 yf7 yc8 yf8 yc9 yf9 yc10 yf10 yc11 yf11 yl
                 obtain ⟨m0, m1, m2, m3, m4, m5, m6, m7, m8, m9, m10, m11⟩ := F0.cs12; obtain ⟨n0, n1, n2, n3, n4, n5, n6, n7, n8, n9, n10, n11⟩ := F1.cs12
                 refine bodyPost_ret (v := .tuple #[.int .i64 1, .agg #[.int .u64 (ww3 fx), .int .u64 (ww2 fx), .int .u64 (ww1 fx), .int .u64 (ww0 fx), .int .u64 (ww3 fy), .int .u64 (ww2 fy), .int .u64 (ww1 fy), .int .u64 (ww0 fy), .int .u64 (ww3 1), .int .u64 (ww2 1), .int .u64 (ww1 1), .int .u64 (ww0 1)], .agg #[.int .u64 0, .int .u64 0, .int .u64 0, .int .u64 0, .int .u64 0, .int .u64 0, .int .u64 0, .int .u64 0, .int .u64 0, .int .u64 0, .int .u64 0, .int .u64 0]]) (by simp [results, Tryz.results84, go_sem, m0, n0, m1, n1, m2, n2, m3, n3, m4, n4, m5, n5, m6, n6, m7, n7, m8, n8, m9, n9, m10, n10, m11, n11]) rfl ?_
                 exact ⟨by rw [HO.out], by first | exact HBF | exact HBF.drew⟩
               · have HO : Hid (alongV a b c d p q u v = .tuple #[.int .i64 2, .agg #[.int .u64 (ww3 fx), .int .u64 (ww2 fx), .int .u64 (ww1 fx), .int .u64 (ww0 fx), .int .u64 (ww3 fy), .int .u64 (ww2 fy), .int .u64 (ww1 fy), .int .u64 (ww0 fy), .int .u64 (ww3 1), .int .u64 (ww2 1), .int .u64 (ww1 1), .int .u64 (ww0 1)], .agg #[.int .u64 (ww3 lx), .int .u64 (ww2 lx), .int .u64 (ww1 lx), .int .u64 (ww0 lx), .int .u64 (ww3 ly), .int .u64 (ww2 ly), .int .u64 (ww1 ly), .int .u64 (ww0 ly), .int .u64 (ww3 1), .int .u64 (ww2 1), .int .u64 (ww1 1), .int .u64 (ww0 1)]]) := by show _ = _; unfold alongV; rw [HFX.out, HFY.out, HLX.out, HLY.out, if_neg (by rw [hA']; rintro (h | h); exact h hT; cases h), if_neg hE]
                 rw [show (decide (fx = lx) && decide (fy = ly)) = false by rw [← Bool.decide_and]; exact decide_eq_false hE] at EQ
                 have PO := pointOfI fx fy (by omega) (by omega)
                 have PL := pointOfI lx ly (by omega) (by omega)
                 clear hA hA' hT hT' hT2 TT hE
                 clear BS BT
                 have tok1 : True := trivial
                 obtain ⟨fc0, ff0, fc1, ff1⟩ := BF.cf2; have fl := BF.lt; obtain ⟨lc0, lf0, lc1, lf1⟩ := BL.cf2; have ll := BL.lt
                 go_upto_region 10 with fail
                 clear fc0 ff0 fc1 ff1 fl lc0 lf0 lc1 lf1 ll
                 go_region_held3 (fun w' => w'.cell? ⟨gF, 0, none⟩ = some (.int .i64 fx) ∧ w'.cell? ⟨gF, 1, none⟩ = some (.int .i64 fy) ∧ w'.cell? ⟨gL, 0, none⟩ = some (.int .i64 lx) ∧ w'.cell? ⟨gL, 1, none⟩ = some (.int .i64 ly)) ((refine al_cells ?_ ?_ <;> repeat (first | (with_reducible exact BF) | (with_reducible exact BL) | (with_reducible refine Blk.drew ?_) | (with_reducible refine Blk.set12 ?_ (by omega)))))
                   (first
                     | (go_at_call 11; have _t := tok1; refine (PO _).mono ?_; rintro e w19 ⟨rfl, hB⟩; (first | (replace BF := BF.step hB; replace BL := BL.step hB; replace BP := BP.step hB; replace BQ := BQ.step hB; replace HB := HB.trans (hB.mono HB.size)) | (replace BF := BF.drew.step hB; replace BL := BL.drew.step hB; replace BP := BP.drew.step hB; replace BQ := BQ.drew.step hB; replace HB := HB.drew.trans (hB.mono HB.drew.size))); clear hB; clear tok1 _t)
                     | (go_at_call 11; refine (PL _).mono ?_; rintro e w20 ⟨rfl, hB⟩; (first | (replace BF := BF.step hB; replace BL := BL.step hB; replace BP := BP.step hB; replace BQ := BQ.step hB; replace HB := HB.trans (hB.mono HB.size)) | (replace BF := BF.drew.step hB; replace BL := BL.drew.step hB; replace BP := BP.drew.step hB; replace BQ := BQ.drew.step hB; replace HB := HB.drew.trans (hB.mono HB.drew.size))); clear hB; obtain ⟨xc0, xf0, xc1, xf1, xc2, xf2, xc3, xf3, xc4, xf4, xc5, xf5, xc6, xf6, xc7, xf7, xc8, xf8, xc9, xf9, xc10, xf10, xc11, xf11⟩ := BP.cf12; have xl := BP.lt; obtain ⟨yc0, yf0, yc1, yf1, yc2, yf2, yc3, yf3, yc4, yf4, yc5, yf5, yc6, yf6, yc7, yf7, yc8, yf8, yc9, yf9, yc10, yf10, yc11, yf11⟩ := BQ.cf12; have yl := BQ.lt))
                 all_goals clear BF BL PO PL EQ
                 all_goals (
                   go_wp2
                   refine put24_ret BP BQ (by omega) (by omega) (by omega) HB fun WF F0 F1 HBF => ?_
                   clear BP BQ HB xc0 xf0 xc1 xf1 xc2 xf2 xc3 xf3 xc4 xf4 xc5 xf5 xc6 xf6 xc7 xf7 xc8 xf8 xc9 xf9 xc10 xf10 xc11 xf11 xl yc0 yf0 yc1 yf1 yc2 yf2 yc3 yf3 yc4 yf4 yc5 yf5 yc6 yf6 yc7 yf7 yc8 yf8 yc9 yf9 yc10 yf10 yc11 yf11 yl
                   obtain ⟨m0, m1, m2, m3, m4, m5, m6, m7, m8, m9, m10, m11⟩ := F0.cs12; obtain ⟨n0, n1, n2, n3, n4, n5, n6, n7, n8, n9, n10, n11⟩ := F1.cs12
                   refine bodyPost_ret (v := .tuple #[.int .i64 2, .agg #[.int .u64 (ww3 fx), .int .u64 (ww2 fx), .int .u64 (ww1 fx), .int .u64 (ww0 fx), .int .u64 (ww3 fy), .int .u64 (ww2 fy), .int .u64 (ww1 fy), .int .u64 (ww0 fy), .int .u64 (ww3 1), .int .u64 (ww2 1), .int .u64 (ww1 1), .int .u64 (ww0 1)], .agg #[.int .u64 (ww3 lx), .int .u64 (ww2 lx), .int .u64 (ww1 lx), .int .u64 (ww0 lx), .int .u64 (ww3 ly), .int .u64 (ww2 ly), .int .u64 (ww1 ly), .int .u64 (ww0 ly), .int .u64 (ww3 1), .int .u64 (ww2 1), .int .u64 (ww1 1), .int .u64 (ww0 1)]]) (by simp [results, Tryz.results84, go_sem, m0, n0, m1, n1, m2, n2, m3, n3, m4, n4, m5, n5, m6, n6, m7, n7, m8, n8, m9, n9, m10, n10, m11, n11]) rfl ?_
                   exact ⟨by rw [HO.out], by first | exact HBF | exact HBF.drew⟩)
           · have hT2 : (turnZ a b c d p q != 0) = true := by simpa using hT
             have HO : Hid (alongV a b c d p q u v = .tuple #[.int .i64 0, .agg #[.int .u64 0, .int .u64 0, .int .u64 0, .int .u64 0, .int .u64 0, .int .u64 0, .int .u64 0, .int .u64 0, .int .u64 0, .int .u64 0, .int .u64 0, .int .u64 0], .agg #[.int .u64 0, .int .u64 0, .int .u64 0, .int .u64 0, .int .u64 0, .int .u64 0, .int .u64 0, .int .u64 0, .int .u64 0, .int .u64 0, .int .u64 0, .int .u64 0]]) := by show _ = _; unfold alongV; rw [if_pos (Or.inl hT)]
             clear TT BS BT BF BL
             generalize turnZ a b c d p q = tz at *
             obtain ⟨xc0, xf0, xc1, xf1, xc2, xf2, xc3, xf3, xc4, xf4, xc5, xf5, xc6, xf6, xc7, xf7, xc8, xf8, xc9, xf9, xc10, xf10, xc11, xf11⟩ := BP.cf12; have xl := BP.lt; obtain ⟨yc0, yf0, yc1, yf1, yc2, yf2, yc3, yf3, yc4, yf4, yc5, yf5, yc6, yf6, yc7, yf7, yc8, yf8, yc9, yf9, yc10, yf10, yc11, yf11⟩ := BQ.cf12; have yl := BQ.lt
             go_wp2
             refine put24_ret BP BQ (by omega) (by omega) (by omega) HB fun WF F0 F1 HBF => ?_
             clear BP BQ HB xc0 xf0 xc1 xf1 xc2 xf2 xc3 xf3 xc4 xf4 xc5 xf5 xc6 xf6 xc7 xf7 xc8 xf8 xc9 xf9 xc10 xf10 xc11 xf11 xl yc0 yf0 yc1 yf1 yc2 yf2 yc3 yf3 yc4 yf4 yc5 yf5 yc6 yf6 yc7 yf7 yc8 yf8 yc9 yf9 yc10 yf10 yc11 yf11 yl
             obtain ⟨m0, m1, m2, m3, m4, m5, m6, m7, m8, m9, m10, m11⟩ := F0.cs12; obtain ⟨n0, n1, n2, n3, n4, n5, n6, n7, n8, n9, n10, n11⟩ := F1.cs12
             refine bodyPost_ret (v := .tuple #[.int .i64 0, .agg #[.int .u64 0, .int .u64 0, .int .u64 0, .int .u64 0, .int .u64 0, .int .u64 0, .int .u64 0, .int .u64 0, .int .u64 0, .int .u64 0, .int .u64 0, .int .u64 0], .agg #[.int .u64 0, .int .u64 0, .int .u64 0, .int .u64 0, .int .u64 0, .int .u64 0, .int .u64 0, .int .u64 0, .int .u64 0, .int .u64 0, .int .u64 0, .int .u64 0]]) (by simp [results, Tryz.results84, go_sem, m0, n0, m1, n1, m2, n2, m3, n3, m4, n4, m5, n5, m6, n6, m7, n7, m8, n8, m9, n9, m10, n10, m11, n11]) rfl ?_
             exact ⟨by rw [HO.out], by first | exact HBF | exact HBF.drew⟩
theorem sizeS_det (n : Int) (h0 : -9223372036854775807 ≤ n) (h1 : n ≤ 9223372036854775807) (w : World) : Calls Tryz.prog 115 #[.int .i64 n] w (VP (.int .u64 (n.natAbs : Int)) w) := by
 by_cases h : 0 ≤ n
 · have e1 : max n (-n) = n := by omega
   have e2 : (n.natAbs : Int) = n := by omega
   rw [e2]
   go_enter Tryz.func115, Tryz.ntmps115
   go_wp2
   go_ret
   exact ⟨rfl, Below.refl _ _⟩
 · have e1 : max n (-n) = -n := by omega
   have e2 : (n.natAbs : Int) = -n := by omega
   rw [e2]
   go_enter Tryz.func115, Tryz.ntmps115
   go_wp2
   go_ret
   exact ⟨rfl, Below.refl _ _⟩
theorem gcd_3a (x y z : Int) : Int.gcd (y.natAbs : Int) (Int.gcd (x.natAbs : Int) (z.natAbs : Int) : Int) = Int.gcd (Int.gcd x y : Int) z := by
 unfold Int.gcd
 simp only [Int.natAbs_natCast]
 rw [Nat.gcd_assoc, Nat.gcd_left_comm]
theorem gcd3_dvd (x y z : Int) : (Int.gcd (Int.gcd x y : Int) z : Int) ∣ x ∧ (Int.gcd (Int.gcd x y : Int) z : Int) ∣ y ∧ (Int.gcd (Int.gcd x y : Int) z : Int) ∣ z := by
 have h1 : (Int.gcd (Int.gcd x y : Int) z : Int) ∣ (Int.gcd x y : Int) := Int.gcd_dvd_left _ _
 exact ⟨Int.dvd_trans h1 (Int.gcd_dvd_left _ _), Int.dvd_trans h1 (Int.gcd_dvd_right _ _), Int.gcd_dvd_right _ _⟩
theorem tdiv_share {n g z : Int} (hg : 0 < g) (hd : g ∣ n) : n.tdiv (if z < 0 then -g else g) = shareZ n g (decide (z < 0)) := by
 obtain ⟨k, rfl⟩ := hd
 have e : ((g * k).natAbs : Int) / g = (k.natAbs : Int) := by
   rw [Int.natAbs_mul, Int.natCast_mul, show ((g.natAbs : Nat) : Int) = g by omega]
   exact Int.mul_ediv_cancel_left _ (by omega)
 have s1 : g * k < 0 ↔ k < 0 := by
   constructor
   · intro h
     apply Decidable.byContradiction
     intro h'
     have := Int.mul_nonneg (a := g) (b := k) (by omega) (by omega)
     omega
   · intro h
     exact Int.mul_neg_of_pos_of_neg hg h
 unfold shareZ
 rw [e]
 by_cases hz : z < 0
 · rw [if_pos hz, decide_eq_true hz, Int.tdiv_neg, Int.mul_tdiv_cancel_left _ (by omega)]
   by_cases hk : k < 0
   · rw [decide_eq_true (s1.2 hk), if_neg (by decide)]; omega
   · rw [decide_eq_false (fun h => hk (s1.1 h)), if_pos (by decide)]; omega
 · rw [if_neg hz, decide_eq_false hz, Int.mul_tdiv_cancel_left _ (by omega)]
   by_cases hk : k < 0
   · rw [decide_eq_true (s1.2 hk), if_pos (by decide)]; omega
   · rw [decide_eq_false (fun h => hk (s1.1 h)), if_neg (by decide)]; omega
theorem share_abs {n g : Int} {b : Bool} (hg : 0 < g) : -(n.natAbs : Int) ≤ shareZ n g b ∧ shareZ n g b ≤ (n.natAbs : Int) := by
 have h1 := Int.ediv_nonneg (a := (n.natAbs : Int)) (b := g) (by omega) (by omega)
 have h2 := Int.ediv_le_self (a := (n.natAbs : Int)) g (by omega)
 unfold shareZ
 split <;> omega
theorem smallPoint_det (x y z : Int) (hx : -9000000000000000000 ≤ x ∧ x ≤ 9000000000000000000) (hy : -9000000000000000000 ≤ y ∧ y ≤ 9000000000000000000) (hz : -8000000000000 ≤ z ∧ z ≤ 8000000000000) (h0 : z ≠ 0) (w : World) : Calls Tryz.prog 86 #[.int .i64 x, .int .i64 y, .int .i64 z] w (VP (.agg #[.int .u64 (ww3 (shareZ x (Int.gcd (Int.gcd x y : Int) z : Int) (decide (z < 0)))), .int .u64 (ww2 (shareZ x (Int.gcd (Int.gcd x y : Int) z : Int) (decide (z < 0)))), .int .u64 (ww1 (shareZ x (Int.gcd (Int.gcd x y : Int) z : Int) (decide (z < 0)))), .int .u64 (ww0 (shareZ x (Int.gcd (Int.gcd x y : Int) z : Int) (decide (z < 0)))), .int .u64 (ww3 (shareZ y (Int.gcd (Int.gcd x y : Int) z : Int) (decide (z < 0)))), .int .u64 (ww2 (shareZ y (Int.gcd (Int.gcd x y : Int) z : Int) (decide (z < 0)))), .int .u64 (ww1 (shareZ y (Int.gcd (Int.gcd x y : Int) z : Int) (decide (z < 0)))), .int .u64 (ww0 (shareZ y (Int.gcd (Int.gcd x y : Int) z : Int) (decide (z < 0)))), .int .u64 (ww3 (shareZ z (Int.gcd (Int.gcd x y : Int) z : Int) (decide (z < 0)))), .int .u64 (ww2 (shareZ z (Int.gcd (Int.gcd x y : Int) z : Int) (decide (z < 0)))), .int .u64 (ww1 (shareZ z (Int.gcd (Int.gcd x y : Int) z : Int) (decide (z < 0)))), .int .u64 (ww0 (shareZ z (Int.gcd (Int.gcd x y : Int) z : Int) (decide (z < 0))))]) w) := by
 have gp : 0 < Int.gcd (Int.gcd x y : Int) z := Int.gcd_pos_of_ne_zero_right _ h0
 have gpI : (0 : Int) < (Int.gcd (Int.gcd x y : Int) z : Int) := by omega
 obtain ⟨d1, d2, d3⟩ := gcd3_dvd x y z
 have gz : (Int.gcd (Int.gcd x y : Int) z : Int) ≤ (z.natAbs : Int) := Int.le_of_dvd (by omega) (Int.dvd_natAbs.2 d3)
 have gx : Int.gcd (x.natAbs : Int) (z.natAbs : Int) ≤ z.natAbs := Nat.gcd_le_right _ (by omega)
 have S1 := sizeS_det x (by omega) (by omega)
 have S2 := sizeS_det y (by omega) (by omega)
 have S3 := sizeS_det z (by omega) (by omega)
 have C1 := gcdW_any (x.natAbs : Int) (z.natAbs : Int) ⟨by omega, by omega⟩ ⟨by omega, by omega⟩
 have C2 := gcdW_any (y.natAbs : Int) (Int.gcd (x.natAbs : Int) (z.natAbs : Int) : Int) ⟨by omega, by omega⟩ ⟨by omega, by omega⟩
 unfold GcdWP at C1 C2
 rw [gcd_3a] at C2
 have q1 := share_abs (n := x) (b := decide (z < 0)) gpI; have q2 := share_abs (n := y) (b := decide (z < 0)) gpI; have q3 := share_abs (n := z) (b := decide (z < 0)) gpI
 have t1 := tdiv_share (z := z) gpI d1; have t2 := tdiv_share (z := z) gpI d2; have t3 := tdiv_share (z := z) gpI d3
 generalize (shareZ x (Int.gcd (Int.gcd x y : Int) z : Int) (decide (z < 0))) = sx at *
 generalize (shareZ y (Int.gcd (Int.gcd x y : Int) z : Int) (decide (z < 0))) = sy at *
 generalize (shareZ z (Int.gcd (Int.gcd x y : Int) z : Int) (decide (z < 0))) = sz at *
 clear d1 d2 d3 gp
 generalize (Int.gcd (Int.gcd x y : Int) z : Int) = gg at *
 generalize (Int.gcd (x.natAbs : Int) (z.natAbs : Int) : Int) = g1 at *
 have B0 := Blk.new w [.int .u64 0, .int .u64 0, .int .u64 0, .int .u64 0, .int .u64 0, .int .u64 0, .int .u64 0, .int .u64 0, .int .u64 0, .int .u64 0, .int .u64 0, .int .u64 0] 40 rfl
 have HB : Below w.heap.size w (w.alloc (.cells #[.int .u64 0, .int .u64 0, .int .u64 0, .int .u64 0, .int .u64 0, .int .u64 0, .int .u64 0, .int .u64 0, .int .u64 0, .int .u64 0, .int .u64 0, .int .u64 0] 40)) := (Below.refl _ _).alloc (Nat.le_refl _) _
 have zb : (z.natAbs : Int) ≤ 8000000000000 := by omega
 have xb : (x.natAbs : Int) ≤ 9000000000000000000 := by omega
 have yb : (y.natAbs : Int) ≤ 9000000000000000000 := by omega
 generalize (x.natAbs : Int) = ax at *
 generalize (y.natAbs : Int) = ay at *
 generalize (z.natAbs : Int) = az at *
 by_cases hz0 : z < 0
 · rw [if_pos hz0] at t1 t2 t3
   have t1' : -(x.tdiv gg) = sx := by rw [← Int.tdiv_neg]; exact t1
   have t2' : -(y.tdiv gg) = sy := by rw [← Int.tdiv_neg]; exact t2
   have t3' : -(z.tdiv gg) = sz := by rw [← Int.tdiv_neg]; exact t3
   go_enter Tryz.func86, Tryz.ntmps86
   go_wp2_with fail
   refine (S1 _).mono ?_
   rintro e w1 ⟨rfl, hB⟩
   replace B0 := B0.step hB; replace HB := HB.trans (hB.mono HB.size)
   clear hB
   go_wp2_with fail
   refine (S3 _).mono ?_
   rintro e w2 ⟨rfl, hB⟩
   replace B0 := B0.step hB; replace HB := HB.trans (hB.mono HB.size)
   clear hB
   go_wp2_with fail
   refine (C1 _).mono ?_
   rintro e w3 ⟨rfl, hB⟩
   replace B0 := B0.step hB; replace HB := HB.trans (hB.mono HB.size)
   clear hB
   go_wp2_with fail
   refine (S2 _).mono ?_
   rintro e w4 ⟨rfl, hB⟩
   replace B0 := B0.step hB; replace HB := HB.trans (hB.mono HB.size)
   clear hB
   go_wp2_with fail
   refine (C2 _).mono ?_
   rintro e w5 ⟨rfl, hB⟩
   replace B0 := B0.step hB; replace HB := HB.trans (hB.mono HB.size)
   clear hB
   have hB0 : (-gg) ≠ 0 := by omega
   have O1 := fun w => implOf_det sx w (by omega) (by omega)
   have O2 := fun w => implOf_det sy w (by omega) (by omega)
   have O3 := fun w => implOf_det sz w (by omega) (by omega)
   have tok1 : True := trivial
   have tok2 : True := trivial
   go_upto_region 5 with fail
   have hw1 : IntKind.i64.wrap sx = sx := wrapI (by omega) (by omega)
   have hw2 : IntKind.i64.wrap sy = sy := wrapI (by omega) (by omega)
   have hw3 : IntKind.i64.wrap sz = sz := wrapI (by omega) (by omega)
   clear q1 q2 q3 gz gx zb xb yb S1 S2 S3 C1 C2
   go_region_held3 (fun _ => True) (trivial)
     (first
       | (go_at_call 30; have _t := tok1; refine (O1 _).mono ?_; rintro e w6 ⟨rfl, hB⟩; (first | (replace B0 := B0.step hB; replace HB := HB.trans (hB.mono HB.size)) | (replace B0 := B0.drew.step hB; replace HB := HB.drew.trans (hB.mono HB.drew.size))); clear hB; clear tok1 _t)
       | (go_at_call 30; have _t := tok2; refine (O2 _).mono ?_; rintro e w7 ⟨rfl, hB⟩; (first | (replace B0 := B0.step hB; replace HB := HB.trans (hB.mono HB.size)) | (replace B0 := B0.drew.step hB; replace HB := HB.drew.trans (hB.mono HB.drew.size))); clear hB; clear tok2 _t)
       | (go_at_call 30; refine (O3 _).mono ?_; rintro e w8 ⟨rfl, hB⟩; (first | (replace B0 := B0.step hB; replace HB := HB.trans (hB.mono HB.size)) | (replace B0 := B0.drew.step hB; replace HB := HB.drew.trans (hB.mono HB.drew.size))); clear hB; obtain ⟨oc0, of0, oc1, of1, oc2, of2, oc3, of3, oc4, of4, oc5, of5, oc6, of6, oc7, of7, oc8, of8, oc9, of9, oc10, of10, oc11, of11⟩ := B0.cf12; have ol := B0.lt))
   all_goals clear B0
   all_goals go_wp2
   all_goals refine bodyPost_ret (v := .agg #[.int .u64 (ww3 sx), .int .u64 (ww2 sx), .int .u64 (ww1 sx), .int .u64 (ww0 sx), .int .u64 (ww3 sy), .int .u64 (ww2 sy), .int .u64 (ww1 sy), .int .u64 (ww0 sy), .int .u64 (ww3 sz), .int .u64 (ww2 sz), .int .u64 (ww1 sz), .int .u64 (ww0 sz)]) (by simp [results, Tryz.results86, go_sem, oc0, oc1, oc2, oc3, oc4, oc5, oc6, oc7, oc8, oc9, oc10, oc11]) rfl ?_
   all_goals refine ⟨rfl, ?_⟩
   all_goals repeat' (refine Below.setCell ?_ (by simp) _)
   all_goals first | exact HB | exact HB.drew
 · rw [if_neg hz0] at t1 t2 t3
   go_enter Tryz.func86, Tryz.ntmps86
   go_wp2_with fail
   refine (S1 _).mono ?_
   rintro e w1 ⟨rfl, hB⟩
   replace B0 := B0.step hB; replace HB := HB.trans (hB.mono HB.size)
   clear hB
   go_wp2_with fail
   refine (S3 _).mono ?_
   rintro e w2 ⟨rfl, hB⟩
   replace B0 := B0.step hB; replace HB := HB.trans (hB.mono HB.size)
   clear hB
   go_wp2_with fail
   refine (C1 _).mono ?_
   rintro e w3 ⟨rfl, hB⟩
   replace B0 := B0.step hB; replace HB := HB.trans (hB.mono HB.size)
   clear hB
   go_wp2_with fail
   refine (S2 _).mono ?_
   rintro e w4 ⟨rfl, hB⟩
   replace B0 := B0.step hB; replace HB := HB.trans (hB.mono HB.size)
   clear hB
   go_wp2_with fail
   refine (C2 _).mono ?_
   rintro e w5 ⟨rfl, hB⟩
   replace B0 := B0.step hB; replace HB := HB.trans (hB.mono HB.size)
   clear hB
   have hB0 : gg ≠ 0 := by omega
   have O1 := fun w => implOf_det sx w (by omega) (by omega)
   have O2 := fun w => implOf_det sy w (by omega) (by omega)
   have O3 := fun w => implOf_det sz w (by omega) (by omega)
   have tok1 : True := trivial
   have tok2 : True := trivial
   go_upto_region 5 with fail
   have hw1 : IntKind.i64.wrap sx = sx := wrapI (by omega) (by omega)
   have hw2 : IntKind.i64.wrap sy = sy := wrapI (by omega) (by omega)
   have hw3 : IntKind.i64.wrap sz = sz := wrapI (by omega) (by omega)
   clear q1 q2 q3 gz gx zb xb yb S1 S2 S3 C1 C2
   go_region_held3 (fun _ => True) (trivial)
     (first
       | (go_at_call 30; have _t := tok1; refine (O1 _).mono ?_; rintro e w6 ⟨rfl, hB⟩; (first | (replace B0 := B0.step hB; replace HB := HB.trans (hB.mono HB.size)) | (replace B0 := B0.drew.step hB; replace HB := HB.drew.trans (hB.mono HB.drew.size))); clear hB; clear tok1 _t)
       | (go_at_call 30; have _t := tok2; refine (O2 _).mono ?_; rintro e w7 ⟨rfl, hB⟩; (first | (replace B0 := B0.step hB; replace HB := HB.trans (hB.mono HB.size)) | (replace B0 := B0.drew.step hB; replace HB := HB.drew.trans (hB.mono HB.drew.size))); clear hB; clear tok2 _t)
       | (go_at_call 30; refine (O3 _).mono ?_; rintro e w8 ⟨rfl, hB⟩; (first | (replace B0 := B0.step hB; replace HB := HB.trans (hB.mono HB.size)) | (replace B0 := B0.drew.step hB; replace HB := HB.drew.trans (hB.mono HB.drew.size))); clear hB; obtain ⟨oc0, of0, oc1, of1, oc2, of2, oc3, of3, oc4, of4, oc5, of5, oc6, of6, oc7, of7, oc8, of8, oc9, of9, oc10, of10, oc11, of11⟩ := B0.cf12; have ol := B0.lt))
   all_goals clear B0
   all_goals go_wp2
   all_goals refine bodyPost_ret (v := .agg #[.int .u64 (ww3 sx), .int .u64 (ww2 sx), .int .u64 (ww1 sx), .int .u64 (ww0 sx), .int .u64 (ww3 sy), .int .u64 (ww2 sy), .int .u64 (ww1 sy), .int .u64 (ww0 sy), .int .u64 (ww3 sz), .int .u64 (ww2 sz), .int .u64 (ww1 sz), .int .u64 (ww0 sz)]) (by simp [results, Tryz.results86, go_sem, oc0, oc1, oc2, oc3, oc4, oc5, oc6, oc7, oc8, oc9, oc10, oc11]) rfl ?_
   all_goals refine ⟨rfl, ?_⟩
   all_goals repeat' (refine Below.setCell ?_ (by simp) _)
   all_goals first | exact HB | exact HB.drew
def meetW (a b c d p q u v : Int) : Value := if ((b - d) * (u - p) - (q - v) * (c - a)) = 0 then alongV a b c d p q u v else if pt2 (turnZ a b c d p q) (turnZ a b c d u v) && pt2 (turnZ p q u v a b) (turnZ p q u v c d) then .tuple #[.int .i64 1, .agg #[.int .u64 (ww3 (shareZ ((c - a) * (p * v - q * u) - (u - p) * (a * d - b * c)) (Int.gcd (Int.gcd ((c - a) * (p * v - q * u) - (u - p) * (a * d - b * c)) ((a * d - b * c) * (q - v) - (p * v - q * u) * (b - d)) : Int) ((b - d) * (u - p) - (q - v) * (c - a)) : Int) (decide (((b - d) * (u - p) - (q - v) * (c - a)) < 0)))), .int .u64 (ww2 (shareZ ((c - a) * (p * v - q * u) - (u - p) * (a * d - b * c)) (Int.gcd (Int.gcd ((c - a) * (p * v - q * u) - (u - p) * (a * d - b * c)) ((a * d - b * c) * (q - v) - (p * v - q * u) * (b - d)) : Int) ((b - d) * (u - p) - (q - v) * (c - a)) : Int) (decide (((b - d) * (u - p) - (q - v) * (c - a)) < 0)))), .int .u64 (ww1 (shareZ ((c - a) * (p * v - q * u) - (u - p) * (a * d - b * c)) (Int.gcd (Int.gcd ((c - a) * (p * v - q * u) - (u - p) * (a * d - b * c)) ((a * d - b * c) * (q - v) - (p * v - q * u) * (b - d)) : Int) ((b - d) * (u - p) - (q - v) * (c - a)) : Int) (decide (((b - d) * (u - p) - (q - v) * (c - a)) < 0)))), .int .u64 (ww0 (shareZ ((c - a) * (p * v - q * u) - (u - p) * (a * d - b * c)) (Int.gcd (Int.gcd ((c - a) * (p * v - q * u) - (u - p) * (a * d - b * c)) ((a * d - b * c) * (q - v) - (p * v - q * u) * (b - d)) : Int) ((b - d) * (u - p) - (q - v) * (c - a)) : Int) (decide (((b - d) * (u - p) - (q - v) * (c - a)) < 0)))), .int .u64 (ww3 (shareZ ((a * d - b * c) * (q - v) - (p * v - q * u) * (b - d)) (Int.gcd (Int.gcd ((c - a) * (p * v - q * u) - (u - p) * (a * d - b * c)) ((a * d - b * c) * (q - v) - (p * v - q * u) * (b - d)) : Int) ((b - d) * (u - p) - (q - v) * (c - a)) : Int) (decide (((b - d) * (u - p) - (q - v) * (c - a)) < 0)))), .int .u64 (ww2 (shareZ ((a * d - b * c) * (q - v) - (p * v - q * u) * (b - d)) (Int.gcd (Int.gcd ((c - a) * (p * v - q * u) - (u - p) * (a * d - b * c)) ((a * d - b * c) * (q - v) - (p * v - q * u) * (b - d)) : Int) ((b - d) * (u - p) - (q - v) * (c - a)) : Int) (decide (((b - d) * (u - p) - (q - v) * (c - a)) < 0)))), .int .u64 (ww1 (shareZ ((a * d - b * c) * (q - v) - (p * v - q * u) * (b - d)) (Int.gcd (Int.gcd ((c - a) * (p * v - q * u) - (u - p) * (a * d - b * c)) ((a * d - b * c) * (q - v) - (p * v - q * u) * (b - d)) : Int) ((b - d) * (u - p) - (q - v) * (c - a)) : Int) (decide (((b - d) * (u - p) - (q - v) * (c - a)) < 0)))), .int .u64 (ww0 (shareZ ((a * d - b * c) * (q - v) - (p * v - q * u) * (b - d)) (Int.gcd (Int.gcd ((c - a) * (p * v - q * u) - (u - p) * (a * d - b * c)) ((a * d - b * c) * (q - v) - (p * v - q * u) * (b - d)) : Int) ((b - d) * (u - p) - (q - v) * (c - a)) : Int) (decide (((b - d) * (u - p) - (q - v) * (c - a)) < 0)))), .int .u64 (ww3 (shareZ ((b - d) * (u - p) - (q - v) * (c - a)) (Int.gcd (Int.gcd ((c - a) * (p * v - q * u) - (u - p) * (a * d - b * c)) ((a * d - b * c) * (q - v) - (p * v - q * u) * (b - d)) : Int) ((b - d) * (u - p) - (q - v) * (c - a)) : Int) (decide (((b - d) * (u - p) - (q - v) * (c - a)) < 0)))), .int .u64 (ww2 (shareZ ((b - d) * (u - p) - (q - v) * (c - a)) (Int.gcd (Int.gcd ((c - a) * (p * v - q * u) - (u - p) * (a * d - b * c)) ((a * d - b * c) * (q - v) - (p * v - q * u) * (b - d)) : Int) ((b - d) * (u - p) - (q - v) * (c - a)) : Int) (decide (((b - d) * (u - p) - (q - v) * (c - a)) < 0)))), .int .u64 (ww1 (shareZ ((b - d) * (u - p) - (q - v) * (c - a)) (Int.gcd (Int.gcd ((c - a) * (p * v - q * u) - (u - p) * (a * d - b * c)) ((a * d - b * c) * (q - v) - (p * v - q * u) * (b - d)) : Int) ((b - d) * (u - p) - (q - v) * (c - a)) : Int) (decide (((b - d) * (u - p) - (q - v) * (c - a)) < 0)))), .int .u64 (ww0 (shareZ ((b - d) * (u - p) - (q - v) * (c - a)) (Int.gcd (Int.gcd ((c - a) * (p * v - q * u) - (u - p) * (a * d - b * c)) ((a * d - b * c) * (q - v) - (p * v - q * u) * (b - d)) : Int) ((b - d) * (u - p) - (q - v) * (c - a)) : Int) (decide (((b - d) * (u - p) - (q - v) * (c - a)) < 0))))], .agg #[.int .u64 0, .int .u64 0, .int .u64 0, .int .u64 0, .int .u64 0, .int .u64 0, .int .u64 0, .int .u64 0, .int .u64 0, .int .u64 0, .int .u64 0, .int .u64 0]] else .tuple #[.int .i64 0, .agg #[.int .u64 0, .int .u64 0, .int .u64 0, .int .u64 0, .int .u64 0, .int .u64 0, .int .u64 0, .int .u64 0, .int .u64 0, .int .u64 0, .int .u64 0, .int .u64 0], .agg #[.int .u64 0, .int .u64 0, .int .u64 0, .int .u64 0, .int .u64 0, .int .u64 0, .int .u64 0, .int .u64 0, .int .u64 0, .int .u64 0, .int .u64 0, .int .u64 0]]
theorem along_ex (a b c d p q u v : Int) : ∃ (k : Int) (r0 r1 r2 r3 r4 r5 r6 r7 r8 r9 r10 r11 s0 s1 s2 s3 s4 s5 s6 s7 s8 s9 s10 s11 : Int), alongV a b c d p q u v = .tuple #[.int .i64 k, .agg #[.int .u64 r0, .int .u64 r1, .int .u64 r2, .int .u64 r3, .int .u64 r4, .int .u64 r5, .int .u64 r6, .int .u64 r7, .int .u64 r8, .int .u64 r9, .int .u64 r10, .int .u64 r11], .agg #[.int .u64 s0, .int .u64 s1, .int .u64 s2, .int .u64 s3, .int .u64 s4, .int .u64 s5, .int .u64 s6, .int .u64 s7, .int .u64 s8, .int .u64 s9, .int .u64 s10, .int .u64 s11]] := by
 unfold alongV
 generalize (if lessI a b p q = true then p else a) = fx
 generalize (if lessI a b p q = true then q else b) = fy
 generalize (if lessI u v c d = true then u else c) = lx
 generalize (if lessI u v c d = true then v else d) = ly
 split
 · exact ⟨_, _, _, _, _, _, _, _, _, _, _, _, _, _, _, _, _, _, _, _, _, _, _, _, _, rfl⟩
 · split
   · exact ⟨_, _, _, _, _, _, _, _, _, _, _, _, _, _, _, _, _, _, _, _, _, _, _, _, _, rfl⟩
   · exact ⟨_, _, _, _, _, _, _, _, _, _, _, _, _, _, _, _, _, _, _, _, _, _, _, _, _, rfl⟩
theorem meetW_ex (a b c d p q u v : Int) : ∃ (k : Int) (r0 r1 r2 r3 r4 r5 r6 r7 r8 r9 r10 r11 s0 s1 s2 s3 s4 s5 s6 s7 s8 s9 s10 s11 : Int), meetW a b c d p q u v = .tuple #[.int .i64 k, .agg #[.int .u64 r0, .int .u64 r1, .int .u64 r2, .int .u64 r3, .int .u64 r4, .int .u64 r5, .int .u64 r6, .int .u64 r7, .int .u64 r8, .int .u64 r9, .int .u64 r10, .int .u64 r11], .agg #[.int .u64 s0, .int .u64 s1, .int .u64 s2, .int .u64 s3, .int .u64 s4, .int .u64 s5, .int .u64 s6, .int .u64 s7, .int .u64 s8, .int .u64 s9, .int .u64 s10, .int .u64 s11]] := by
 unfold meetW
 split
 · exact along_ex a b c d p q u v
 · split
   · exact ⟨_, _, _, _, _, _, _, _, _, _, _, _, _, _, _, _, _, _, _, _, _, _, _, _, _, rfl⟩
   · exact ⟨_, _, _, _, _, _, _, _, _, _, _, _, _, _, _, _, _, _, _, _, _, _, _, _, _, rfl⟩
theorem meet_det (a b c d p q u v : Int) (ha : In1 a) (hb : In1 b) (hc : In1 c) (hd : In1 d) (hp : In1 p) (hq : In1 q) (hu : In1 u) (hv : In1 v) (w : World) : Calls Tryz.prog 51 #[Sg a b c d, Sg p q u v] w (VP (meetW a b c d p q u v) w) := by
 have LS := lineOf_det a b c d ha hb hc hd
 have LT := lineOf_det p q u v hp hq hu hv
 obtain ⟨x1, x2⟩ := mul_in (p := a) (q := d) (M := 1000000) (N := 1000000) ha.1 ha.2 hd.1 hd.2
 obtain ⟨x3, x4⟩ := mul_in (p := b) (q := c) (M := 1000000) (N := 1000000) hb.1 hb.2 hc.1 hc.2
 obtain ⟨y1, y2⟩ := mul_in (p := p) (q := v) (M := 1000000) (N := 1000000) hp.1 hp.2 hv.1 hv.2
 obtain ⟨y3, y4⟩ := mul_in (p := q) (q := u) (M := 1000000) (N := 1000000) hq.1 hq.2 hu.1 hu.2
 have i1 : In2 (b - d) := ⟨by omega, by omega⟩
 have i2 : In2 (c - a) := ⟨by omega, by omega⟩
 have i3 : In3 (a * d - b * c) := ⟨by omega, by omega⟩
 have j1 : In2 (q - v) := ⟨by omega, by omega⟩
 have j2 : In2 (u - p) := ⟨by omega, by omega⟩
 have j3 : In3 (p * v - q * u) := ⟨by omega, by omega⟩
 have CR := crossing_det (b - d) (c - a) (a * d - b * c) (q - v) (u - p) (p * v - q * u) i1 i2 i3 j1 j2 j3
 have bX : -9000000000000000000 ≤ ((c - a) * (p * v - q * u) - (u - p) * (a * d - b * c)) ∧ ((c - a) * (p * v - q * u) - (u - p) * (a * d - b * c)) ≤ 9000000000000000000 := by
   have e1 := mul_in (p := c - a) (q := p * v - q * u) (M := 2000000) (N := 2000000000000) i2.1 i2.2 j3.1 j3.2
   have e2 := mul_in (p := u - p) (q := a * d - b * c) (M := 2000000) (N := 2000000000000) j2.1 j2.2 i3.1 i3.2
   omega
 have bY : -9000000000000000000 ≤ ((a * d - b * c) * (q - v) - (p * v - q * u) * (b - d)) ∧ ((a * d - b * c) * (q - v) - (p * v - q * u) * (b - d)) ≤ 9000000000000000000 := by
   have e1 := mul_in (p := a * d - b * c) (q := q - v) (M := 2000000000000) (N := 2000000) i3.1 i3.2 j1.1 j1.2
   have e2 := mul_in (p := p * v - q * u) (q := b - d) (M := 2000000000000) (N := 2000000) j3.1 j3.2 i1.1 i1.2
   omega
 have bW : -8000000000000 ≤ ((b - d) * (u - p) - (q - v) * (c - a)) ∧ ((b - d) * (u - p) - (q - v) * (c - a)) ≤ 8000000000000 := by
   have e1 := mul_in (p := b - d) (q := u - p) (M := 2000000) (N := 2000000) i1.1 i1.2 j2.1 j2.2
   have e2 := mul_in (p := q - v) (q := c - a) (M := 2000000) (N := 2000000) j1.1 j1.2 i2.1 i2.2
   omega
 have SM := smallPoint_det ((c - a) * (p * v - q * u) - (u - p) * (a * d - b * c)) ((a * d - b * c) * (q - v) - (p * v - q * u) * (b - d)) ((b - d) * (u - p) - (q - v) * (c - a)) bX bY bW
 have AL := meetAlong_det a b c d p q u v ha hb hc hd hp hq hu hv
 have P1 := fun g w h => parts2_det a b c d p q u v ha hb hc hd hp hq hu hv g w h
 have P2 := fun g w h => parts2_det p q u v a b c d hp hq hu hv ha hb hc hd g w h
 have HV : Hid (meetW a b c d p q u v = if ((b - d) * (u - p) - (q - v) * (c - a)) = 0 then alongV a b c d p q u v else if pt2 (turnZ a b c d p q) (turnZ a b c d u v) && pt2 (turnZ p q u v a b) (turnZ p q u v c d) then .tuple #[.int .i64 1, .agg #[.int .u64 (ww3 (shareZ ((c - a) * (p * v - q * u) - (u - p) * (a * d - b * c)) (Int.gcd (Int.gcd ((c - a) * (p * v - q * u) - (u - p) * (a * d - b * c)) ((a * d - b * c) * (q - v) - (p * v - q * u) * (b - d)) : Int) ((b - d) * (u - p) - (q - v) * (c - a)) : Int) (decide (((b - d) * (u - p) - (q - v) * (c - a)) < 0)))), .int .u64 (ww2 (shareZ ((c - a) * (p * v - q * u) - (u - p) * (a * d - b * c)) (Int.gcd (Int.gcd ((c - a) * (p * v - q * u) - (u - p) * (a * d - b * c)) ((a * d - b * c) * (q - v) - (p * v - q * u) * (b - d)) : Int) ((b - d) * (u - p) - (q - v) * (c - a)) : Int) (decide (((b - d) * (u - p) - (q - v) * (c - a)) < 0)))), .int .u64 (ww1 (shareZ ((c - a) * (p * v - q * u) - (u - p) * (a * d - b * c)) (Int.gcd (Int.gcd ((c - a) * (p * v - q * u) - (u - p) * (a * d - b * c)) ((a * d - b * c) * (q - v) - (p * v - q * u) * (b - d)) : Int) ((b - d) * (u - p) - (q - v) * (c - a)) : Int) (decide (((b - d) * (u - p) - (q - v) * (c - a)) < 0)))), .int .u64 (ww0 (shareZ ((c - a) * (p * v - q * u) - (u - p) * (a * d - b * c)) (Int.gcd (Int.gcd ((c - a) * (p * v - q * u) - (u - p) * (a * d - b * c)) ((a * d - b * c) * (q - v) - (p * v - q * u) * (b - d)) : Int) ((b - d) * (u - p) - (q - v) * (c - a)) : Int) (decide (((b - d) * (u - p) - (q - v) * (c - a)) < 0)))), .int .u64 (ww3 (shareZ ((a * d - b * c) * (q - v) - (p * v - q * u) * (b - d)) (Int.gcd (Int.gcd ((c - a) * (p * v - q * u) - (u - p) * (a * d - b * c)) ((a * d - b * c) * (q - v) - (p * v - q * u) * (b - d)) : Int) ((b - d) * (u - p) - (q - v) * (c - a)) : Int) (decide (((b - d) * (u - p) - (q - v) * (c - a)) < 0)))), .int .u64 (ww2 (shareZ ((a * d - b * c) * (q - v) - (p * v - q * u) * (b - d)) (Int.gcd (Int.gcd ((c - a) * (p * v - q * u) - (u - p) * (a * d - b * c)) ((a * d - b * c) * (q - v) - (p * v - q * u) * (b - d)) : Int) ((b - d) * (u - p) - (q - v) * (c - a)) : Int) (decide (((b - d) * (u - p) - (q - v) * (c - a)) < 0)))), .int .u64 (ww1 (shareZ ((a * d - b * c) * (q - v) - (p * v - q * u) * (b - d)) (Int.gcd (Int.gcd ((c - a) * (p * v - q * u) - (u - p) * (a * d - b * c)) ((a * d - b * c) * (q - v) - (p * v - q * u) * (b - d)) : Int) ((b - d) * (u - p) - (q - v) * (c - a)) : Int) (decide (((b - d) * (u - p) - (q - v) * (c - a)) < 0)))), .int .u64 (ww0 (shareZ ((a * d - b * c) * (q - v) - (p * v - q * u) * (b - d)) (Int.gcd (Int.gcd ((c - a) * (p * v - q * u) - (u - p) * (a * d - b * c)) ((a * d - b * c) * (q - v) - (p * v - q * u) * (b - d)) : Int) ((b - d) * (u - p) - (q - v) * (c - a)) : Int) (decide (((b - d) * (u - p) - (q - v) * (c - a)) < 0)))), .int .u64 (ww3 (shareZ ((b - d) * (u - p) - (q - v) * (c - a)) (Int.gcd (Int.gcd ((c - a) * (p * v - q * u) - (u - p) * (a * d - b * c)) ((a * d - b * c) * (q - v) - (p * v - q * u) * (b - d)) : Int) ((b - d) * (u - p) - (q - v) * (c - a)) : Int) (decide (((b - d) * (u - p) - (q - v) * (c - a)) < 0)))), .int .u64 (ww2 (shareZ ((b - d) * (u - p) - (q - v) * (c - a)) (Int.gcd (Int.gcd ((c - a) * (p * v - q * u) - (u - p) * (a * d - b * c)) ((a * d - b * c) * (q - v) - (p * v - q * u) * (b - d)) : Int) ((b - d) * (u - p) - (q - v) * (c - a)) : Int) (decide (((b - d) * (u - p) - (q - v) * (c - a)) < 0)))), .int .u64 (ww1 (shareZ ((b - d) * (u - p) - (q - v) * (c - a)) (Int.gcd (Int.gcd ((c - a) * (p * v - q * u) - (u - p) * (a * d - b * c)) ((a * d - b * c) * (q - v) - (p * v - q * u) * (b - d)) : Int) ((b - d) * (u - p) - (q - v) * (c - a)) : Int) (decide (((b - d) * (u - p) - (q - v) * (c - a)) < 0)))), .int .u64 (ww0 (shareZ ((b - d) * (u - p) - (q - v) * (c - a)) (Int.gcd (Int.gcd ((c - a) * (p * v - q * u) - (u - p) * (a * d - b * c)) ((a * d - b * c) * (q - v) - (p * v - q * u) * (b - d)) : Int) ((b - d) * (u - p) - (q - v) * (c - a)) : Int) (decide (((b - d) * (u - p) - (q - v) * (c - a)) < 0))))], .agg #[.int .u64 0, .int .u64 0, .int .u64 0, .int .u64 0, .int .u64 0, .int .u64 0, .int .u64 0, .int .u64 0, .int .u64 0, .int .u64 0, .int .u64 0, .int .u64 0]] else .tuple #[.int .i64 0, .agg #[.int .u64 0, .int .u64 0, .int .u64 0, .int .u64 0, .int .u64 0, .int .u64 0, .int .u64 0, .int .u64 0, .int .u64 0, .int .u64 0, .int .u64 0, .int .u64 0], .agg #[.int .u64 0, .int .u64 0, .int .u64 0, .int .u64 0, .int .u64 0, .int .u64 0, .int .u64 0, .int .u64 0, .int .u64 0, .int .u64 0, .int .u64 0, .int .u64 0]]) := rfl
 generalize pt2 (turnZ a b c d p q) (turnZ a b c d u v) = f1 at *
 generalize pt2 (turnZ p q u v a b) (turnZ p q u v c d) = f2 at *
 clear x1 x2 x3 x4 y1 y2 y3 y4 i1 i2 i3 j1 j2 j3 bX bY
 generalize ((c - a) * (p * v - q * u) - (u - p) * (a * d - b * c)) = cx at *
 generalize ((a * d - b * c) * (q - v) - (p * v - q * u) * (b - d)) = cy at *
 generalize ((b - d) * (u - p) - (q - v) * (c - a)) = cw at *
 generalize b - d = l1 at *
 generalize c - a = l2 at *
 generalize a * d - b * c = l3 at *
 generalize q - v = m1 at *
 generalize u - p = m2 at *
 generalize p * v - q * u = m3 at *
 clear ha hb hc hd hp hq hu hv
 have tok1 : True := trivial
 have T0 : ArgsB w ((((w.alloc (.cells #[.int .i64 a, .int .i64 b, .int .i64 c, .int .i64 d] 27)).alloc (.cells #[.int .i64 p, .int .i64 q, .int .i64 u, .int .i64 v] 27)).alloc (.cells #[.int .u64 0, .int .u64 0, .int .u64 0, .int .u64 0, .int .u64 0, .int .u64 0, .int .u64 0, .int .u64 0, .int .u64 0, .int .u64 0, .int .u64 0, .int .u64 0] 40)).alloc (.cells #[.int .u64 0, .int .u64 0, .int .u64 0, .int .u64 0, .int .u64 0, .int .u64 0, .int .u64 0, .int .u64 0, .int .u64 0, .int .u64 0, .int .u64 0, .int .u64 0] 40)) [[.int .i64 a, .int .i64 b, .int .i64 c, .int .i64 d], [.int .i64 p, .int .i64 q, .int .i64 u, .int .i64 v], [.int .u64 0, .int .u64 0, .int .u64 0, .int .u64 0, .int .u64 0, .int .u64 0, .int .u64 0, .int .u64 0, .int .u64 0, .int .u64 0, .int .u64 0, .int .u64 0], [.int .u64 0, .int .u64 0, .int .u64 0, .int .u64 0, .int .u64 0, .int .u64 0, .int .u64 0, .int .u64 0, .int .u64 0, .int .u64 0, .int .u64 0, .int .u64 0]] := ar4 _ _ _ _ _ _ _ _ w
 go_enter Tryz.func51, Tryz.ntmps51
 go_upto_region 1 with fail
 generalize ((((w.alloc (.cells #[.int .i64 a, .int .i64 b, .int .i64 c, .int .i64 d] 27)).alloc (.cells #[.int .i64 p, .int .i64 q, .int .i64 u, .int .i64 v] 27)).alloc (.cells #[.int .u64 0, .int .u64 0, .int .u64 0, .int .u64 0, .int .u64 0, .int .u64 0, .int .u64 0, .int .u64 0, .int .u64 0, .int .u64 0, .int .u64 0, .int .u64 0] 40)).alloc (.cells #[.int .u64 0, .int .u64 0, .int .u64 0, .int .u64 0, .int .u64 0, .int .u64 0, .int .u64 0, .int .u64 0, .int .u64 0, .int .u64 0, .int .u64 0, .int .u64 0] 40)) = W at *
 go_region_held3 (fun w' => w'.cell? ⟨w.heap.size, 0, none⟩ = some (.int .i64 a) ∧ w'.cell? ⟨w.heap.size, 1, none⟩ = some (.int .i64 b) ∧ w'.cell? ⟨w.heap.size, 2, none⟩ = some (.int .i64 c) ∧ w'.cell? ⟨w.heap.size, 3, none⟩ = some (.int .i64 d) ∧ w'.cell? ⟨w.heap.size + 1, 0, none⟩ = some (.int .i64 p) ∧ w'.cell? ⟨w.heap.size + 1, 1, none⟩ = some (.int .i64 q) ∧ w'.cell? ⟨w.heap.size + 1, 2, none⟩ = some (.int .i64 u) ∧ w'.cell? ⟨w.heap.size + 1, 3, none⟩ = some (.int .i64 v)) ((refine ml_cells ?_ <;> repeat (first | (with_reducible exact T0) | (with_reducible refine ArgsB.drew ?_))))
   (first
     | (go_at_call 82; have _t := tok1; refine (LS _).mono ?_; rintro e w1 ⟨rfl, hB⟩; (first | (have T1 := T0.step hB) | (have T1 := T0.drew.step hB)); clear T0; have T0 := T1; clear T1 hB tok1 _t)
     | (go_at_call 82; refine (LT _).mono ?_; rintro e w2 ⟨rfl, hB⟩; (first | (have T1 := T0.step hB) | (have T1 := T0.drew.step hB)); clear T0; have T0 := T1; clear T1 hB)
     | (go_at_call 83; refine (CR _).mono ?_; rintro e w3 ⟨rfl, hB⟩; (first | (have T1 := T0.step hB) | (have T1 := T0.drew.step hB)); clear T0; have T0 := T1; clear T1 hB))
 all_goals clear LS LT CR
 all_goals (
   have BS : Blk _ w.heap.size _ := T0.b 0 rfl; have BT : Blk _ (w.heap.size + 1) _ := T0.b 1 rfl; have BP : Blk _ (w.heap.size + 1 + 1) _ := T0.b 2 rfl; have BQ : Blk _ (w.heap.size + 1 + 1 + 1) _ := T0.b 3 rfl; have HB := T0.below
   clear T0
   by_cases h0 : cw = 0
   · have HO1 : Hid (meetW a b c d p q u v = alongV a b c d p q u v) := by show _ = _; rw [HV.out, if_pos h0]
     obtain ⟨k, r0, r1, r2, r3, r4, r5, r6, r7, r8, r9, r10, r11, s0, s1, s2, s3, s4, s5, s6, s7, s8, s9, s10, s11, hk⟩ := along_ex a b c d p q u v
     have HO : Hid (meetW a b c d p q u v = .tuple #[.int .i64 k, .agg #[.int .u64 r0, .int .u64 r1, .int .u64 r2, .int .u64 r3, .int .u64 r4, .int .u64 r5, .int .u64 r6, .int .u64 r7, .int .u64 r8, .int .u64 r9, .int .u64 r10, .int .u64 r11], .agg #[.int .u64 s0, .int .u64 s1, .int .u64 s2, .int .u64 s3, .int .u64 s4, .int .u64 s5, .int .u64 s6, .int .u64 s7, .int .u64 s8, .int .u64 s9, .int .u64 s10, .int .u64 s11]]) := HO1.out.trans hk
     rw [hk] at AL
     subst h0
     clear HV hk HO1 SM P1 P2 bW
     obtain ⟨sc0, sc1, sc2, sc3⟩ := BS.cs4; have sl := BS.lt; obtain ⟨tc0, tc1, tc2, tc3⟩ := BT.cs4; have tl := BT.lt
     go_wp2_with fail
     refine (AL _).mono ?_
     rintro e w4 ⟨rfl, hB⟩
     replace BS := BS.step hB
     replace BT := BT.step hB
     replace BP := BP.step hB
     replace BQ := BQ.step hB
     replace HB := HB.trans (hB.mono HB.size)
     clear hB sc0 sc1 sc2 sc3 sl tc0 tc1 tc2 tc3 tl
     clear BS BT AL
     obtain ⟨xc0, xf0, xc1, xf1, xc2, xf2, xc3, xf3, xc4, xf4, xc5, xf5, xc6, xf6, xc7, xf7, xc8, xf8, xc9, xf9, xc10, xf10, xc11, xf11⟩ := BP.cf12; have xl := BP.lt; obtain ⟨yc0, yf0, yc1, yf1, yc2, yf2, yc3, yf3, yc4, yf4, yc5, yf5, yc6, yf6, yc7, yf7, yc8, yf8, yc9, yf9, yc10, yf10, yc11, yf11⟩ := BQ.cf12; have yl := BQ.lt
     go_wp2
     refine put24_ret BP BQ (by omega) (by omega) (by omega) HB fun WF F0 F1 HBF => ?_
     clear BP BQ HB xc0 xf0 xc1 xf1 xc2 xf2 xc3 xf3 xc4 xf4 xc5 xf5 xc6 xf6 xc7 xf7 xc8 xf8 xc9 xf9 xc10 xf10 xc11 xf11 xl yc0 yf0 yc1 yf1 yc2 yf2 yc3 yf3 yc4 yf4 yc5 yf5 yc6 yf6 yc7 yf7 yc8 yf8 yc9 yf9 yc10 yf10 yc11 yf11 yl
     obtain ⟨m0, m1, m2, m3, m4, m5, m6, m7, m8, m9, m10, m11⟩ := F0.cs12; obtain ⟨n0, n1, n2, n3, n4, n5, n6, n7, n8, n9, n10, n11⟩ := F1.cs12
     refine bodyPost_ret (v := .tuple #[.int .i64 k, .agg #[.int .u64 r0, .int .u64 r1, .int .u64 r2, .int .u64 r3, .int .u64 r4, .int .u64 r5, .int .u64 r6, .int .u64 r7, .int .u64 r8, .int .u64 r9, .int .u64 r10, .int .u64 r11], .agg #[.int .u64 s0, .int .u64 s1, .int .u64 s2, .int .u64 s3, .int .u64 s4, .int .u64 s5, .int .u64 s6, .int .u64 s7, .int .u64 s8, .int .u64 s9, .int .u64 s10, .int .u64 s11]]) (by simp [results, Tryz.results51, go_sem, m0, n0, m1, n1, m2, n2, m3, n3, m4, n4, m5, n5, m6, n6, m7, n7, m8, n8, m9, n9, m10, n10, m11, n11]) rfl ?_
     exact ⟨by rw [HO.out], by first | exact HBF | exact HBF.drew⟩
   · have SM := SM h0
     obtain ⟨sc0, sc1, sc2, sc3⟩ := BS.cs4; have sl := BS.lt; obtain ⟨tc0, tc1, tc2, tc3⟩ := BT.cs4; have tl := BT.lt
     go_wp2_with fail
     refine (P1 _ _ (Blk.new _ _ _ rfl)).mono ?_
     rintro e w4 ⟨rfl, hB⟩
     replace BS := (BS.alloc _).step hB; replace BT := (BT.alloc _).step hB; replace BP := (BP.alloc _).step hB; replace BQ := (BQ.alloc _).step hB; replace HB := (HB.alloc HB.size _).trans (hB.mono (HB.alloc HB.size _).size)
     clear hB sc0 sc1 sc2 sc3 sl tc0 tc1 tc2 tc3 tl P1
     cases f1
     · have HO : Hid (meetW a b c d p q u v = .tuple #[.int .i64 0, .agg #[.int .u64 0, .int .u64 0, .int .u64 0, .int .u64 0, .int .u64 0, .int .u64 0, .int .u64 0, .int .u64 0, .int .u64 0, .int .u64 0, .int .u64 0, .int .u64 0], .agg #[.int .u64 0, .int .u64 0, .int .u64 0, .int .u64 0, .int .u64 0, .int .u64 0, .int .u64 0, .int .u64 0, .int .u64 0, .int .u64 0, .int .u64 0, .int .u64 0]]) := by show _ = _; rw [HV.out, if_neg h0]; rfl
       clear BS BT AL SM P2 HV bW
       obtain ⟨xc0, xf0, xc1, xf1, xc2, xf2, xc3, xf3, xc4, xf4, xc5, xf5, xc6, xf6, xc7, xf7, xc8, xf8, xc9, xf9, xc10, xf10, xc11, xf11⟩ := BP.cf12; have xl := BP.lt; obtain ⟨yc0, yf0, yc1, yf1, yc2, yf2, yc3, yf3, yc4, yf4, yc5, yf5, yc6, yf6, yc7, yf7, yc8, yf8, yc9, yf9, yc10, yf10, yc11, yf11⟩ := BQ.cf12; have yl := BQ.lt
       go_wp2
       refine put24_ret BP BQ (by omega) (by omega) (by omega) HB fun WF F0 F1 HBF => ?_
       clear BP BQ HB xc0 xf0 xc1 xf1 xc2 xf2 xc3 xf3 xc4 xf4 xc5 xf5 xc6 xf6 xc7 xf7 xc8 xf8 xc9 xf9 xc10 xf10 xc11 xf11 xl yc0 yf0 yc1 yf1 yc2 yf2 yc3 yf3 yc4 yf4 yc5 yf5 yc6 yf6 yc7 yf7 yc8 yf8 yc9 yf9 yc10 yf10 yc11 yf11 yl
       obtain ⟨m0, m1, m2, m3, m4, m5, m6, m7, m8, m9, m10, m11⟩ := F0.cs12; obtain ⟨n0, n1, n2, n3, n4, n5, n6, n7, n8, n9, n10, n11⟩ := F1.cs12
       refine bodyPost_ret (v := .tuple #[.int .i64 0, .agg #[.int .u64 0, .int .u64 0, .int .u64 0, .int .u64 0, .int .u64 0, .int .u64 0, .int .u64 0, .int .u64 0, .int .u64 0, .int .u64 0, .int .u64 0, .int .u64 0], .agg #[.int .u64 0, .int .u64 0, .int .u64 0, .int .u64 0, .int .u64 0, .int .u64 0, .int .u64 0, .int .u64 0, .int .u64 0, .int .u64 0, .int .u64 0, .int .u64 0]]) (by simp [results, Tryz.results51, go_sem, m0, n0, m1, n1, m2, n2, m3, n3, m4, n4, m5, n5, m6, n6, m7, n7, m8, n8, m9, n9, m10, n10, m11, n11]) rfl ?_
       exact ⟨by rw [HO.out], by first | exact HBF | exact HBF.drew⟩
     · obtain ⟨sc0, sc1, sc2, sc3⟩ := BS.cs4; have sl := BS.lt; obtain ⟨tc0, tc1, tc2, tc3⟩ := BT.cs4; have tl := BT.lt
       go_wp2_with fail
       refine (P2 _ _ (Blk.new _ _ _ rfl)).mono ?_
       rintro e w5 ⟨rfl, hB⟩
       replace BP := (BP.alloc _).step hB; replace BQ := (BQ.alloc _).step hB; replace HB := (HB.alloc HB.size _).trans (hB.mono (HB.alloc HB.size _).size)
       clear hB sc0 sc1 sc2 sc3 sl tc0 tc1 tc2 tc3 tl P2 BS BT
       cases f2
       · have HO : Hid (meetW a b c d p q u v = .tuple #[.int .i64 0, .agg #[.int .u64 0, .int .u64 0, .int .u64 0, .int .u64 0, .int .u64 0, .int .u64 0, .int .u64 0, .int .u64 0, .int .u64 0, .int .u64 0, .int .u64 0, .int .u64 0], .agg #[.int .u64 0, .int .u64 0, .int .u64 0, .int .u64 0, .int .u64 0, .int .u64 0, .int .u64 0, .int .u64 0, .int .u64 0, .int .u64 0, .int .u64 0, .int .u64 0]]) := by show _ = _; rw [HV.out, if_neg h0]; rfl
         clear AL SM HV bW
         obtain ⟨xc0, xf0, xc1, xf1, xc2, xf2, xc3, xf3, xc4, xf4, xc5, xf5, xc6, xf6, xc7, xf7, xc8, xf8, xc9, xf9, xc10, xf10, xc11, xf11⟩ := BP.cf12; have xl := BP.lt; obtain ⟨yc0, yf0, yc1, yf1, yc2, yf2, yc3, yf3, yc4, yf4, yc5, yf5, yc6, yf6, yc7, yf7, yc8, yf8, yc9, yf9, yc10, yf10, yc11, yf11⟩ := BQ.cf12; have yl := BQ.lt
         go_wp2
         refine put24_ret BP BQ (by omega) (by omega) (by omega) HB fun WF F0 F1 HBF => ?_
         clear BP BQ HB xc0 xf0 xc1 xf1 xc2 xf2 xc3 xf3 xc4 xf4 xc5 xf5 xc6 xf6 xc7 xf7 xc8 xf8 xc9 xf9 xc10 xf10 xc11 xf11 xl yc0 yf0 yc1 yf1 yc2 yf2 yc3 yf3 yc4 yf4 yc5 yf5 yc6 yf6 yc7 yf7 yc8 yf8 yc9 yf9 yc10 yf10 yc11 yf11 yl
         obtain ⟨m0, m1, m2, m3, m4, m5, m6, m7, m8, m9, m10, m11⟩ := F0.cs12; obtain ⟨n0, n1, n2, n3, n4, n5, n6, n7, n8, n9, n10, n11⟩ := F1.cs12
         refine bodyPost_ret (v := .tuple #[.int .i64 0, .agg #[.int .u64 0, .int .u64 0, .int .u64 0, .int .u64 0, .int .u64 0, .int .u64 0, .int .u64 0, .int .u64 0, .int .u64 0, .int .u64 0, .int .u64 0, .int .u64 0], .agg #[.int .u64 0, .int .u64 0, .int .u64 0, .int .u64 0, .int .u64 0, .int .u64 0, .int .u64 0, .int .u64 0, .int .u64 0, .int .u64 0, .int .u64 0, .int .u64 0]]) (by simp [results, Tryz.results51, go_sem, m0, n0, m1, n1, m2, n2, m3, n3, m4, n4, m5, n5, m6, n6, m7, n7, m8, n8, m9, n9, m10, n10, m11, n11]) rfl ?_
         exact ⟨by rw [HO.out], by first | exact HBF | exact HBF.drew⟩
       · have HO : Hid (meetW a b c d p q u v = .tuple #[.int .i64 1, .agg #[.int .u64 (ww3 (shareZ cx (Int.gcd (Int.gcd cx cy : Int) cw : Int) (decide (cw < 0)))), .int .u64 (ww2 (shareZ cx (Int.gcd (Int.gcd cx cy : Int) cw : Int) (decide (cw < 0)))), .int .u64 (ww1 (shareZ cx (Int.gcd (Int.gcd cx cy : Int) cw : Int) (decide (cw < 0)))), .int .u64 (ww0 (shareZ cx (Int.gcd (Int.gcd cx cy : Int) cw : Int) (decide (cw < 0)))), .int .u64 (ww3 (shareZ cy (Int.gcd (Int.gcd cx cy : Int) cw : Int) (decide (cw < 0)))), .int .u64 (ww2 (shareZ cy (Int.gcd (Int.gcd cx cy : Int) cw : Int) (decide (cw < 0)))), .int .u64 (ww1 (shareZ cy (Int.gcd (Int.gcd cx cy : Int) cw : Int) (decide (cw < 0)))), .int .u64 (ww0 (shareZ cy (Int.gcd (Int.gcd cx cy : Int) cw : Int) (decide (cw < 0)))), .int .u64 (ww3 (shareZ cw (Int.gcd (Int.gcd cx cy : Int) cw : Int) (decide (cw < 0)))), .int .u64 (ww2 (shareZ cw (Int.gcd (Int.gcd cx cy : Int) cw : Int) (decide (cw < 0)))), .int .u64 (ww1 (shareZ cw (Int.gcd (Int.gcd cx cy : Int) cw : Int) (decide (cw < 0)))), .int .u64 (ww0 (shareZ cw (Int.gcd (Int.gcd cx cy : Int) cw : Int) (decide (cw < 0))))], .agg #[.int .u64 0, .int .u64 0, .int .u64 0, .int .u64 0, .int .u64 0, .int .u64 0, .int .u64 0, .int .u64 0, .int .u64 0, .int .u64 0, .int .u64 0, .int .u64 0]]) := by show _ = _; rw [HV.out, if_neg h0]; rfl
         generalize (shareZ cx (Int.gcd (Int.gcd cx cy : Int) cw : Int) (decide (cw < 0))) = sx at *
         generalize (shareZ cy (Int.gcd (Int.gcd cx cy : Int) cw : Int) (decide (cw < 0))) = sy at *
         generalize (shareZ cw (Int.gcd (Int.gcd cx cy : Int) cw : Int) (decide (cw < 0))) = sz at *
         clear AL HV bW
         go_wp2_with fail
         refine (SM _).mono ?_
         rintro e w6 ⟨rfl, hB⟩
         replace BP := BP.step hB; replace BQ := BQ.step hB; replace HB := HB.trans (hB.mono HB.size)
         clear hB SM
         obtain ⟨xc0, xf0, xc1, xf1, xc2, xf2, xc3, xf3, xc4, xf4, xc5, xf5, xc6, xf6, xc7, xf7, xc8, xf8, xc9, xf9, xc10, xf10, xc11, xf11⟩ := BP.cf12; have xl := BP.lt; obtain ⟨yc0, yf0, yc1, yf1, yc2, yf2, yc3, yf3, yc4, yf4, yc5, yf5, yc6, yf6, yc7, yf7, yc8, yf8, yc9, yf9, yc10, yf10, yc11, yf11⟩ := BQ.cf12; have yl := BQ.lt
         go_wp2
         refine put24_ret BP BQ (by omega) (by omega) (by omega) HB fun WF F0 F1 HBF => ?_
         clear BP BQ HB xc0 xf0 xc1 xf1 xc2 xf2 xc3 xf3 xc4 xf4 xc5 xf5 xc6 xf6 xc7 xf7 xc8 xf8 xc9 xf9 xc10 xf10 xc11 xf11 xl yc0 yf0 yc1 yf1 yc2 yf2 yc3 yf3 yc4 yf4 yc5 yf5 yc6 yf6 yc7 yf7 yc8 yf8 yc9 yf9 yc10 yf10 yc11 yf11 yl
         obtain ⟨m0, m1, m2, m3, m4, m5, m6, m7, m8, m9, m10, m11⟩ := F0.cs12; obtain ⟨n0, n1, n2, n3, n4, n5, n6, n7, n8, n9, n10, n11⟩ := F1.cs12
         refine bodyPost_ret (v := .tuple #[.int .i64 1, .agg #[.int .u64 (ww3 sx), .int .u64 (ww2 sx), .int .u64 (ww1 sx), .int .u64 (ww0 sx), .int .u64 (ww3 sy), .int .u64 (ww2 sy), .int .u64 (ww1 sy), .int .u64 (ww0 sy), .int .u64 (ww3 sz), .int .u64 (ww2 sz), .int .u64 (ww1 sz), .int .u64 (ww0 sz)], .agg #[.int .u64 0, .int .u64 0, .int .u64 0, .int .u64 0, .int .u64 0, .int .u64 0, .int .u64 0, .int .u64 0, .int .u64 0, .int .u64 0, .int .u64 0, .int .u64 0]]) (by simp [results, Tryz.results51, go_sem, m0, n0, m1, n1, m2, n2, m3, n3, m4, n4, m5, n5, m6, n6, m7, n7, m8, n8, m9, n9, m10, n10, m11, n11]) rfl ?_
         exact ⟨by rw [HO.out], by first | exact HBF | exact HBF.drew⟩)
def meetV (a b c d p q u v : Int) : Value := if segOk a b c d && segOk p q u v then meetW a b c d p q u v else .tuple #[.int .i64 0, .agg #[.int .u64 0, .int .u64 0, .int .u64 0, .int .u64 0, .int .u64 0, .int .u64 0, .int .u64 0, .int .u64 0, .int .u64 0, .int .u64 0, .int .u64 0, .int .u64 0], .agg #[.int .u64 0, .int .u64 0, .int .u64 0, .int .u64 0, .int .u64 0, .int .u64 0, .int .u64 0, .int .u64 0, .int .u64 0, .int .u64 0, .int .u64 0, .int .u64 0]]
theorem in1_seg {a b c d : Int} (h : segOk a b c d = true) : In1 a ∧ In1 b ∧ In1 c ∧ In1 d := by
 unfold segOk spotOk at h
 simp only [Bool.and_eq_true, decide_eq_true_eq] at h
 obtain ⟨⟨h1, h2⟩, -⟩ := h
 exact ⟨⟨h1.1, h1.2.1⟩, ⟨h1.2.2.1, h1.2.2.2⟩, ⟨h2.1, h2.2.1⟩, ⟨h2.2.2.1, h2.2.2.2⟩⟩
theorem implMeet_det (a b c d p q u v : Int) (w : World) : Calls Tryz.prog 18 #[Sg a b c d, Sg p q u v] w (VP (meetV a b c d p q u v) w) := by
 have T0 : ArgsB w ((((w.alloc (.cells #[.int .i64 a, .int .i64 b, .int .i64 c, .int .i64 d] 27)).alloc (.cells #[.int .i64 p, .int .i64 q, .int .i64 u, .int .i64 v] 27)).alloc (.cells #[.int .u64 0, .int .u64 0, .int .u64 0, .int .u64 0, .int .u64 0, .int .u64 0, .int .u64 0, .int .u64 0, .int .u64 0, .int .u64 0, .int .u64 0, .int .u64 0] 40)).alloc (.cells #[.int .u64 0, .int .u64 0, .int .u64 0, .int .u64 0, .int .u64 0, .int .u64 0, .int .u64 0, .int .u64 0, .int .u64 0, .int .u64 0, .int .u64 0, .int .u64 0] 40)) [[.int .i64 a, .int .i64 b, .int .i64 c, .int .i64 d], [.int .i64 p, .int .i64 q, .int .i64 u, .int .i64 v], [.int .u64 0, .int .u64 0, .int .u64 0, .int .u64 0, .int .u64 0, .int .u64 0, .int .u64 0, .int .u64 0, .int .u64 0, .int .u64 0, .int .u64 0, .int .u64 0], [.int .u64 0, .int .u64 0, .int .u64 0, .int .u64 0, .int .u64 0, .int .u64 0, .int .u64 0, .int .u64 0, .int .u64 0, .int .u64 0, .int .u64 0, .int .u64 0]] := ar4 _ _ _ _ _ _ _ _ w
 have K1 := implSegOk_any a b c d _ rfl
 have K2 := implSegOk_any p q u v _ rfl
 go_enter Tryz.func18, Tryz.ntmps18
 go_upto_region 1 with fail
 generalize ((((w.alloc (.cells #[.int .i64 a, .int .i64 b, .int .i64 c, .int .i64 d] 27)).alloc (.cells #[.int .i64 p, .int .i64 q, .int .i64 u, .int .i64 v] 27)).alloc (.cells #[.int .u64 0, .int .u64 0, .int .u64 0, .int .u64 0, .int .u64 0, .int .u64 0, .int .u64 0, .int .u64 0, .int .u64 0, .int .u64 0, .int .u64 0, .int .u64 0] 40)).alloc (.cells #[.int .u64 0, .int .u64 0, .int .u64 0, .int .u64 0, .int .u64 0, .int .u64 0, .int .u64 0, .int .u64 0, .int .u64 0, .int .u64 0, .int .u64 0, .int .u64 0] 40)) = W at *
 have BS : Blk _ w.heap.size _ := T0.b 0 rfl; have BT : Blk _ (w.heap.size + 1) _ := T0.b 1 rfl; have BP : Blk _ (w.heap.size + 1 + 1) _ := T0.b 2 rfl; have BQ : Blk _ (w.heap.size + 1 + 1 + 1) _ := T0.b 3 rfl; have HB := T0.below
 clear T0
 obtain ⟨sc0, sc1, sc2, sc3⟩ := BS.cs4; have sl := BS.lt; obtain ⟨tc0, tc1, tc2, tc3⟩ := BT.cs4; have tl := BT.lt
 go_wp2_with fail
 refine (K1 _).mono ?_
 rintro e w1 ⟨rfl, hB⟩
 replace BS := BS.step hB
 replace BT := BT.step hB
 replace BP := BP.step hB
 replace BQ := BQ.step hB
 replace HB := HB.trans (hB.mono HB.size)
 clear hB sc0 sc1 sc2 sc3 sl tc0 tc1 tc2 tc3 tl
 by_cases h1 : segOk a b c d = true
 · rw [h1]
   obtain ⟨sc0, sc1, sc2, sc3⟩ := BS.cs4; have sl := BS.lt; obtain ⟨tc0, tc1, tc2, tc3⟩ := BT.cs4; have tl := BT.lt
   go_wp2_with fail
   refine (K2 _).mono ?_
   rintro e w2 ⟨rfl, hB⟩
   replace BS := BS.step hB
   replace BT := BT.step hB
   replace BP := BP.step hB
   replace BQ := BQ.step hB
   replace HB := HB.trans (hB.mono HB.size)
   clear hB sc0 sc1 sc2 sc3 sl tc0 tc1 tc2 tc3 tl
   by_cases h2 : segOk p q u v = true
   · rw [h2]
     obtain ⟨ha, hb, hc, hd⟩ := in1_seg h1
     obtain ⟨hp, hq, hu, hv⟩ := in1_seg h2
     have MT := meet_det a b c d p q u v ha hb hc hd hp hq hu hv
     obtain ⟨k, r0, r1, r2, r3, r4, r5, r6, r7, r8, r9, r10, r11, s0, s1, s2, s3, s4, s5, s6, s7, s8, s9, s10, s11, hk⟩ := meetW_ex a b c d p q u v
     rw [hk] at MT
     have HO : Hid (meetV a b c d p q u v = .tuple #[.int .i64 k, .agg #[.int .u64 r0, .int .u64 r1, .int .u64 r2, .int .u64 r3, .int .u64 r4, .int .u64 r5, .int .u64 r6, .int .u64 r7, .int .u64 r8, .int .u64 r9, .int .u64 r10, .int .u64 r11], .agg #[.int .u64 s0, .int .u64 s1, .int .u64 s2, .int .u64 s3, .int .u64 s4, .int .u64 s5, .int .u64 s6, .int .u64 s7, .int .u64 s8, .int .u64 s9, .int .u64 s10, .int .u64 s11]]) := by show _ = _; unfold meetV; rw [h1, h2]; exact hk
     clear hk h1 h2 ha hb hc hd hp hq hu hv K1 K2
     obtain ⟨sc0, sc1, sc2, sc3⟩ := BS.cs4; have sl := BS.lt; obtain ⟨tc0, tc1, tc2, tc3⟩ := BT.cs4; have tl := BT.lt
     go_wp2_with fail
     refine (MT _).mono ?_
     rintro e w3 ⟨rfl, hB⟩
     replace BS := BS.step hB
     replace BT := BT.step hB
     replace BP := BP.step hB
     replace BQ := BQ.step hB
     replace HB := HB.trans (hB.mono HB.size)
     clear hB sc0 sc1 sc2 sc3 sl tc0 tc1 tc2 tc3 tl
     clear BS BT MT
     obtain ⟨xc0, xf0, xc1, xf1, xc2, xf2, xc3, xf3, xc4, xf4, xc5, xf5, xc6, xf6, xc7, xf7, xc8, xf8, xc9, xf9, xc10, xf10, xc11, xf11⟩ := BP.cf12; have xl := BP.lt; obtain ⟨yc0, yf0, yc1, yf1, yc2, yf2, yc3, yf3, yc4, yf4, yc5, yf5, yc6, yf6, yc7, yf7, yc8, yf8, yc9, yf9, yc10, yf10, yc11, yf11⟩ := BQ.cf12; have yl := BQ.lt
     go_wp2
     refine put24_ret BP BQ (by omega) (by omega) (by omega) HB fun WF F0 F1 HBF => ?_
     clear BP BQ HB xc0 xf0 xc1 xf1 xc2 xf2 xc3 xf3 xc4 xf4 xc5 xf5 xc6 xf6 xc7 xf7 xc8 xf8 xc9 xf9 xc10 xf10 xc11 xf11 xl yc0 yf0 yc1 yf1 yc2 yf2 yc3 yf3 yc4 yf4 yc5 yf5 yc6 yf6 yc7 yf7 yc8 yf8 yc9 yf9 yc10 yf10 yc11 yf11 yl
     obtain ⟨m0, m1, m2, m3, m4, m5, m6, m7, m8, m9, m10, m11⟩ := F0.cs12; obtain ⟨n0, n1, n2, n3, n4, n5, n6, n7, n8, n9, n10, n11⟩ := F1.cs12
     refine bodyPost_ret (v := .tuple #[.int .i64 k, .agg #[.int .u64 r0, .int .u64 r1, .int .u64 r2, .int .u64 r3, .int .u64 r4, .int .u64 r5, .int .u64 r6, .int .u64 r7, .int .u64 r8, .int .u64 r9, .int .u64 r10, .int .u64 r11], .agg #[.int .u64 s0, .int .u64 s1, .int .u64 s2, .int .u64 s3, .int .u64 s4, .int .u64 s5, .int .u64 s6, .int .u64 s7, .int .u64 s8, .int .u64 s9, .int .u64 s10, .int .u64 s11]]) (by simp [results, Tryz.results18, go_sem, m0, n0, m1, n1, m2, n2, m3, n3, m4, n4, m5, n5, m6, n6, m7, n7, m8, n8, m9, n9, m10, n10, m11, n11]) rfl ?_
     exact ⟨by rw [HO.out], by first | exact HBF | exact HBF.drew⟩
   · have h2' := Bool.eq_false_iff.2 h2
     rw [h2']
     have HO : Hid (meetV a b c d p q u v = .tuple #[.int .i64 0, .agg #[.int .u64 0, .int .u64 0, .int .u64 0, .int .u64 0, .int .u64 0, .int .u64 0, .int .u64 0, .int .u64 0, .int .u64 0, .int .u64 0, .int .u64 0, .int .u64 0], .agg #[.int .u64 0, .int .u64 0, .int .u64 0, .int .u64 0, .int .u64 0, .int .u64 0, .int .u64 0, .int .u64 0, .int .u64 0, .int .u64 0, .int .u64 0, .int .u64 0]]) := by show _ = _; unfold meetV; rw [h1, h2']; rfl
     clear h1 h2 h2' K1 K2 BS BT
     obtain ⟨xc0, xf0, xc1, xf1, xc2, xf2, xc3, xf3, xc4, xf4, xc5, xf5, xc6, xf6, xc7, xf7, xc8, xf8, xc9, xf9, xc10, xf10, xc11, xf11⟩ := BP.cf12; have xl := BP.lt; obtain ⟨yc0, yf0, yc1, yf1, yc2, yf2, yc3, yf3, yc4, yf4, yc5, yf5, yc6, yf6, yc7, yf7, yc8, yf8, yc9, yf9, yc10, yf10, yc11, yf11⟩ := BQ.cf12; have yl := BQ.lt
     go_wp2
     refine put24_ret BP BQ (by omega) (by omega) (by omega) HB fun WF F0 F1 HBF => ?_
     clear BP BQ HB xc0 xf0 xc1 xf1 xc2 xf2 xc3 xf3 xc4 xf4 xc5 xf5 xc6 xf6 xc7 xf7 xc8 xf8 xc9 xf9 xc10 xf10 xc11 xf11 xl yc0 yf0 yc1 yf1 yc2 yf2 yc3 yf3 yc4 yf4 yc5 yf5 yc6 yf6 yc7 yf7 yc8 yf8 yc9 yf9 yc10 yf10 yc11 yf11 yl
     obtain ⟨m0, m1, m2, m3, m4, m5, m6, m7, m8, m9, m10, m11⟩ := F0.cs12; obtain ⟨n0, n1, n2, n3, n4, n5, n6, n7, n8, n9, n10, n11⟩ := F1.cs12
     refine bodyPost_ret (v := .tuple #[.int .i64 0, .agg #[.int .u64 0, .int .u64 0, .int .u64 0, .int .u64 0, .int .u64 0, .int .u64 0, .int .u64 0, .int .u64 0, .int .u64 0, .int .u64 0, .int .u64 0, .int .u64 0], .agg #[.int .u64 0, .int .u64 0, .int .u64 0, .int .u64 0, .int .u64 0, .int .u64 0, .int .u64 0, .int .u64 0, .int .u64 0, .int .u64 0, .int .u64 0, .int .u64 0]]) (by simp [results, Tryz.results18, go_sem, m0, n0, m1, n1, m2, n2, m3, n3, m4, n4, m5, n5, m6, n6, m7, n7, m8, n8, m9, n9, m10, n10, m11, n11]) rfl ?_
     exact ⟨by rw [HO.out], by first | exact HBF | exact HBF.drew⟩
 · have h1' := Bool.eq_false_iff.2 h1
   rw [h1']
   have HO : Hid (meetV a b c d p q u v = .tuple #[.int .i64 0, .agg #[.int .u64 0, .int .u64 0, .int .u64 0, .int .u64 0, .int .u64 0, .int .u64 0, .int .u64 0, .int .u64 0, .int .u64 0, .int .u64 0, .int .u64 0, .int .u64 0], .agg #[.int .u64 0, .int .u64 0, .int .u64 0, .int .u64 0, .int .u64 0, .int .u64 0, .int .u64 0, .int .u64 0, .int .u64 0, .int .u64 0, .int .u64 0, .int .u64 0]]) := by show _ = _; unfold meetV; rw [h1']; rfl
   clear h1 h1' K1 K2 BS BT
   obtain ⟨xc0, xf0, xc1, xf1, xc2, xf2, xc3, xf3, xc4, xf4, xc5, xf5, xc6, xf6, xc7, xf7, xc8, xf8, xc9, xf9, xc10, xf10, xc11, xf11⟩ := BP.cf12; have xl := BP.lt; obtain ⟨yc0, yf0, yc1, yf1, yc2, yf2, yc3, yf3, yc4, yf4, yc5, yf5, yc6, yf6, yc7, yf7, yc8, yf8, yc9, yf9, yc10, yf10, yc11, yf11⟩ := BQ.cf12; have yl := BQ.lt
   go_wp2
   refine put24_ret BP BQ (by omega) (by omega) (by omega) HB fun WF F0 F1 HBF => ?_
   clear BP BQ HB xc0 xf0 xc1 xf1 xc2 xf2 xc3 xf3 xc4 xf4 xc5 xf5 xc6 xf6 xc7 xf7 xc8 xf8 xc9 xf9 xc10 xf10 xc11 xf11 xl yc0 yf0 yc1 yf1 yc2 yf2 yc3 yf3 yc4 yf4 yc5 yf5 yc6 yf6 yc7 yf7 yc8 yf8 yc9 yf9 yc10 yf10 yc11 yf11 yl
   obtain ⟨m0, m1, m2, m3, m4, m5, m6, m7, m8, m9, m10, m11⟩ := F0.cs12; obtain ⟨n0, n1, n2, n3, n4, n5, n6, n7, n8, n9, n10, n11⟩ := F1.cs12
   refine bodyPost_ret (v := .tuple #[.int .i64 0, .agg #[.int .u64 0, .int .u64 0, .int .u64 0, .int .u64 0, .int .u64 0, .int .u64 0, .int .u64 0, .int .u64 0, .int .u64 0, .int .u64 0, .int .u64 0, .int .u64 0], .agg #[.int .u64 0, .int .u64 0, .int .u64 0, .int .u64 0, .int .u64 0, .int .u64 0, .int .u64 0, .int .u64 0, .int .u64 0, .int .u64 0, .int .u64 0, .int .u64 0]]) (by simp [results, Tryz.results18, go_sem, m0, n0, m1, n1, m2, n2, m3, n3, m4, n4, m5, n5, m6, n6, m7, n7, m8, n8, m9, n9, m10, n10, m11, n11]) rfl ?_
   exact ⟨by rw [HO.out], by first | exact HBF | exact HBF.drew⟩
end Go.Proofs.YtpnnpkchogooaaaGreat
