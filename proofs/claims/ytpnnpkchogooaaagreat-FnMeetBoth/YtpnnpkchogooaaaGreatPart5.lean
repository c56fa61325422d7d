/- Part 5 of the walks that the proof leans on. -/
import Derived.Test.YtpnnpkchogooaaaGreatPart4
import Derived.Test.YtpnnpkchogooaaaGreatPart3
import Derived.Test.YtpnnpkchogooaaaGreatPart1
import Derived.Test.YtpnnpkchogooaaaGreatPart2
set_option maxRecDepth 100000
set_option maxHeartbeats 8000000
namespace Go.Proofs.YtpnnpkchogooaaaGreat
open Go.RowKit
def DivLP (X Y : Int) (w : World) (e : Ending) (w' : World) : Prop :=
 ∃ qs rs : List Int, e = .returned (.tuple #[agg qs, agg rs]) ∧ qs.length = 8 ∧ rs.length = 8 ∧ Words qs ∧ Words rs ∧ val64 qs = X / Y ∧ val64 rs = X % Y ∧ Below w.heap.size w w'
theorem divideLong_any (xs ys : List Int) (hl : xs.length = 8) (hm : ys.length = 8) (hx : Words xs) (hy : Words ys) (h0 : 0 < val64 ys) (w : World) : Calls Tryz.prog 111 #[agg xs, agg ys] w (DivLP (val64 xs) (val64 ys) w) := by
 have HL : Hid (xs.length = 8) := hl
 have HM : Hid (ys.length = 8) := hm
 have HX : Hid (Words xs) := hx
 have HY : Hid (Words ys) := hy
 have H0 : Hid (0 < val64 ys) := h0
 obtain ⟨x0, x1, x2, x3, x4, x5, x6, x7, hxs⟩ := list8' hl
 have HAX : Hid (agg xs = .agg #[.int .u64 x0, .int .u64 x1, .int .u64 x2, .int .u64 x3, .int .u64 x4, .int .u64 x5, .int .u64 x6, .int .u64 x7]) := by show _ = _; rw [hxs]; rfl
 rw [HAX.out]
 obtain ⟨y0, y1, y2, y3, y4, y5, y6, y7, hys⟩ := list8' hm
 have HAY : Hid (agg ys = .agg #[.int .u64 y0, .int .u64 y1, .int .u64 y2, .int .u64 y3, .int .u64 y4, .int .u64 y5, .int .u64 y6, .int .u64 y7]) := by show _ = _; rw [hys]; rfl
 have HMY : Hid (ys.map (Value.int .u64) = [.int .u64 y0, .int .u64 y1, .int .u64 y2, .int .u64 y3, .int .u64 y4, .int .u64 y5, .int .u64 y6, .int .u64 y7]) := by show _ = _; rw [hys]; rfl
 rw [HAY.out]
 have T0 := dl_args x0 x1 x2 x3 x4 x5 x6 x7 y0 y1 y2 y3 y4 y5 y6 y7 w
 clear hl hm hx hy h0 hxs hys
 have tok1 : True := trivial
 go_enter Tryz.func111, Tryz.ntmps111
 go_wp2_with fail
 generalize ((((w.alloc (.cells #[.int .u64 x0, .int .u64 x1, .int .u64 x2, .int .u64 x3, .int .u64 x4, .int .u64 x5, .int .u64 x6, .int .u64 x7] 68)).alloc (.cells #[.int .u64 y0, .int .u64 y1, .int .u64 y2, .int .u64 y3, .int .u64 y4, .int .u64 y5, .int .u64 y6, .int .u64 y7] 68)).alloc (.cells #[.int .u64 0, .int .u64 0, .int .u64 0, .int .u64 0, .int .u64 0, .int .u64 0, .int .u64 0, .int .u64 0] 68)).alloc (.cells #[.int .u64 0, .int .u64 0, .int .u64 0, .int .u64 0, .int .u64 0, .int .u64 0, .int .u64 0, .int .u64 0] 68)) = W at *
 have BY : Blk W (w.heap.size + 1) (ys.map (Value.int .u64)) := by rw [HMY.out]; exact T0.b 1 rfl
 have RY := blk_row_take BY (k := 8) (by have := HM.out; omega)
 rw [List.take_of_length_le (by have := HM.out; omega)] at RY
 refine (countWords_any (w.heap.size + 1) 0 8 8 ys _ HM.out RY (by decide)).mono ?_
 rintro e w1 ⟨n, rfl, c1, c2, c3, rfl⟩
 have hn1 : 1 ≤ n := by
   apply Decidable.byContradiction
   intro hn
   have := (val64_few HY.out n c1 c2).2
   obtain rfl : n = 0 := by omega
   have := H0.out
   simp only [pw64] at *
   omega
 obtain ⟨m, hmn⟩ : ∃ m, m + 1 = n := ⟨n - 1, by omega⟩
 have im : m < ys.length := by omega
 have hn8 : n ≤ 8 := by have := HM.out; omega
 have htop := c3 m hmn.symm im
 have C2 : Hid (∀ j, n ≤ j → (h : j < ys.length) → ys[j] = 0) := c2
 have HMN : Hid (m + 1 = n) := hmn
 have cm : w1.cell? ⟨w.heap.size + 1, m, none⟩ = some (.int .u64 ys[m]) := BY.c m (by simp [im])
 have am : (n : Int) - 1 = (m : Int) := by omega
 have bm1 : (0 : Int) ≤ m := by omega
 have bm2 : (m : Int) < 8 := by omega
 have HT : Hid (ys[m] ≠ 0) := htop
 have wm := words_at HY.out m im
 clear RY c1 c2 c3 BY htop hmn
 go_wp2_with fail
 refine (lead_any ys[m] wm _).mono ?_
 rintro e w2 ⟨s, rfl, hs, hb, hB⟩
 replace T0 := T0.step hB
 clear hB cm
 have y0p := val64_nonneg HY.out
 have x0p := val64_nonneg HX.out
 have ylt := vq_lt HY.out
 have xlt := vq_lt HX.out
 rw [HM.out] at ylt
 rw [HL.out] at xlt
 have s64 : s < 64 := by
   apply Decidable.byContradiction
   intro hn
   have g1 := hb.2.1
   rw [show 64 - s = 0 by omega] at g1
   simp at g1
   have := wm.1
   have := HT.out
   omega
 have ps := pow_le64 s64
 have ps0 : (0 : Int) < 2 ^ s := Int.pow_pos (by decide)
 have p9 : (9223372036854775808 : Int) * pw64 8 ≤ pw64 9 := by decide
 obtain ⟨bs, bl, bw, bv⟩ := words_ex 9 (2 ^ s * val64 ys) (Int.mul_nonneg (by omega) y0p) (by
   have h1 : (2 : Int) ^ s * (val64 ys + 1) ≤ 2 ^ s * pw64 8 := Int.mul_le_mul_of_nonneg_left (by omega) (by omega)
   have h2 : (2 : Int) ^ s * pw64 8 ≤ 9223372036854775808 * pw64 8 := Int.mul_le_mul_of_nonneg_right ps (Int.le_of_lt (pq_pos 8))
   rw [Int.mul_add] at h1
   omega)
 obtain ⟨rs, rl, rw', rv⟩ := words_ex 9 (2 ^ s * val64 xs) (Int.mul_nonneg (by omega) x0p) (by
   have h1 : (2 : Int) ^ s * (val64 xs + 1) ≤ 2 ^ s * pw64 8 := Int.mul_le_mul_of_nonneg_left (by omega) (by omega)
   have h2 : (2 : Int) ^ s * pw64 8 ≤ 9223372036854775808 * pw64 8 := Int.mul_le_mul_of_nonneg_right ps (Int.le_of_lt (pq_pos 8))
   rw [Int.mul_add] at h1
   omega)
 obtain ⟨_, tk, lowB, highB, topB⟩ := kn_by HM.out HY.out HMN.out hn8 C2.out im HT.out hs hb bl bw bv
 have LY := liftUp_det ys s HM.out HY.out s64 bs bl bw bv
 have LX := liftUp_det xs s HL.out HX.out s64 rs rl rw' rv
 rw [HAY.out] at LY
 rw [HAX.out] at LX
 have HBL : Hid (bs.length = 9) := bl
 have HBW : Hid (Words bs) := bw
 have HBV : Hid (val64 bs = 2 ^ s * val64 ys) := bv
 have HRL : Hid (rs.length = 9) := rl
 have HRW : Hid (Words rs) := rw'
 have HRV : Hid (val64 rs = 2 ^ s * val64 xs) := rv
 have HTK : Hid (val64 (bs.take n) = val64 bs) := tk
 have HLO : Hid (9223372036854775808 * pw64 m ≤ val64 bs) := lowB
 have HHI : Hid (val64 bs < pw64 n) := highB
 have HTP : Hid (∀ k, k + 1 = n → (h : k < bs.length) → bs[k] ≠ 0) := topB
 have HXL : Hid (val64 xs < pw64 8) := xlt
 unfold agg at LY LX
 clear bl bw bv rl rw' rv tk lowB highB topB xlt ylt y0p x0p ps ps0 p9 hb wm
 go_upto_region 3 with fail
 go_cut [8, 9] (fun p q wx => CutD w wx [[.int .u64 x0, .int .u64 x1, .int .u64 x2, .int .u64 x3, .int .u64 x4, .int .u64 x5, .int .u64 x6, .int .u64 x7], [.int .u64 y0, .int .u64 y1, .int .u64 y2, .int .u64 y3, .int .u64 y4, .int .u64 y5, .int .u64 y6, .int .u64 y7], [.int .u64 0, .int .u64 0, .int .u64 0, .int .u64 0, .int .u64 0, .int .u64 0, .int .u64 0, .int .u64 0], [.int .u64 0, .int .u64 0, .int .u64 0, .int .u64 0, .int .u64 0, .int .u64 0, .int .u64 0, .int .u64 0]] (bs.map (Value.int .u64)) (rs.map (Value.int .u64)) p q)
 case first =>
   have is0 : Option.map (fun x => x.size) (Tryz.prog.info? 165) = some 9 := by kernel_rfl
   have hbl : (bs.map (Value.int .u64)).length = 9 := by rw [List.length_map]; exact HBL.out
   have hrl : (rs.map (Value.int .u64)).length = 9 := by rw [List.length_map]; exact HRL.out
   have hbl9 : ([.int .u64 0, .int .u64 0, .int .u64 0, .int .u64 0, .int .u64 0, .int .u64 0, .int .u64 0, .int .u64 0, .int .u64 0] : List Value).length = (bs.map (Value.int .u64)).length := hbl.symm
   have hrl9 : ([.int .u64 0, .int .u64 0, .int .u64 0, .int .u64 0, .int .u64 0, .int .u64 0, .int .u64 0, .int .u64 0, .int .u64 0] : List Value).length = (rs.map (Value.int .u64)).length := hrl.symm
   have ob1 : ∀ v ∈ (bs.map (Value.int .u64)), v.oneCell' = true := by
     intro v hv
     obtain ⟨d, _, rfl⟩ := List.mem_map.1 hv
     rfl
   have ob2 : ∀ v ∈ (rs.map (Value.int .u64)), v.oneCell' = true := by
     intro v hv
     obtain ⟨d, _, rfl⟩ := List.mem_map.1 hv
     rfl
   have is1 : Option.map (fun x => x.size) (Tryz.prog.info? 165) = some (bs.map (Value.int .u64)).length := by rw [hbl]; exact is0
   have is2 : Option.map (fun x => x.size) (Tryz.prog.info? 165) = some (rs.map (Value.int .u64)).length := by rw [hrl]; exact is0
   have thab : ∀ (W : World), (W.alloc (.cells #[.int .u64 0, .int .u64 0, .int .u64 0, .int .u64 0, .int .u64 0, .int .u64 0, .int .u64 0, .int .u64 0, .int .u64 0] 165)).there W.heap.size 0 (bs.map (Value.int .u64)).length := fun W => (Blk.new W [.int .u64 0, .int .u64 0, .int .u64 0, .int .u64 0, .int .u64 0, .int .u64 0, .int .u64 0, .int .u64 0, .int .u64 0] _ rfl).there hbl9
   have thbb : ∀ (W : World) (o : Obj), ((W.alloc (.cells #[.int .u64 0, .int .u64 0, .int .u64 0, .int .u64 0, .int .u64 0, .int .u64 0, .int .u64 0, .int .u64 0, .int .u64 0] 165)).alloc o).there W.heap.size 0 (bs.map (Value.int .u64)).length := fun W o => ((Blk.new W [.int .u64 0, .int .u64 0, .int .u64 0, .int .u64 0, .int .u64 0, .int .u64 0, .int .u64 0, .int .u64 0, .int .u64 0] _ rfl).alloc o).there hbl9
   have thcb : ∀ (W : World) (o : Obj), ((W.alloc o).alloc (.cells #[.int .u64 0, .int .u64 0, .int .u64 0, .int .u64 0, .int .u64 0, .int .u64 0, .int .u64 0, .int .u64 0, .int .u64 0] 165)).there (W.heap.size + 1) 0 (bs.map (Value.int .u64)).length := fun W o => (Blk.newS W o [.int .u64 0, .int .u64 0, .int .u64 0, .int .u64 0, .int .u64 0, .int .u64 0, .int .u64 0, .int .u64 0, .int .u64 0] _).there hbl9
   have thdb : ∀ (W : World) (o : Obj) (b : Nat) (vs : List Value), (((W.alloc o).alloc (.cells #[.int .u64 0, .int .u64 0, .int .u64 0, .int .u64 0, .int .u64 0, .int .u64 0, .int .u64 0, .int .u64 0, .int .u64 0] 165)).setCells b 0 vs).there (W.heap.size + 1) 0 (bs.map (Value.int .u64)).length := fun W o b vs => there_cells _ _ _ _ _ ((Blk.newS W o [.int .u64 0, .int .u64 0, .int .u64 0, .int .u64 0, .int .u64 0, .int .u64 0, .int .u64 0, .int .u64 0, .int .u64 0] _).there hbl9)
   have theb : ∀ (W : World) (o : Obj) (b : Nat) (vs : List Value), (((W.alloc (.cells #[.int .u64 0, .int .u64 0, .int .u64 0, .int .u64 0, .int .u64 0, .int .u64 0, .int .u64 0, .int .u64 0, .int .u64 0] 165)).alloc o).setCells b 0 vs).there W.heap.size 0 (bs.map (Value.int .u64)).length := fun W o b vs => there_cells _ _ _ _ _ (((Blk.new W [.int .u64 0, .int .u64 0, .int .u64 0, .int .u64 0, .int .u64 0, .int .u64 0, .int .u64 0, .int .u64 0, .int .u64 0] _ rfl).alloc o).there hbl9)
   have thfb : ∀ (W : World) (b g : Nat) (vs : List Value), W.there g 0 (bs.map (Value.int .u64)).length → (W.setCells b 0 vs).there g 0 (bs.map (Value.int .u64)).length := fun W b g vs h => there_cells _ _ _ _ _ h
   have thgb : ∀ (W : World) (o : Obj) (g : Nat), W.there g 0 (bs.map (Value.int .u64)).length → (W.alloc o).there g 0 (bs.map (Value.int .u64)).length := fun W o g h => World.there_alloc h o
   have thar : ∀ (W : World), (W.alloc (.cells #[.int .u64 0, .int .u64 0, .int .u64 0, .int .u64 0, .int .u64 0, .int .u64 0, .int .u64 0, .int .u64 0, .int .u64 0] 165)).there W.heap.size 0 (rs.map (Value.int .u64)).length := fun W => (Blk.new W [.int .u64 0, .int .u64 0, .int .u64 0, .int .u64 0, .int .u64 0, .int .u64 0, .int .u64 0, .int .u64 0, .int .u64 0] _ rfl).there hrl9
   have thbr : ∀ (W : World) (o : Obj), ((W.alloc (.cells #[.int .u64 0, .int .u64 0, .int .u64 0, .int .u64 0, .int .u64 0, .int .u64 0, .int .u64 0, .int .u64 0, .int .u64 0] 165)).alloc o).there W.heap.size 0 (rs.map (Value.int .u64)).length := fun W o => ((Blk.new W [.int .u64 0, .int .u64 0, .int .u64 0, .int .u64 0, .int .u64 0, .int .u64 0, .int .u64 0, .int .u64 0, .int .u64 0] _ rfl).alloc o).there hrl9
   have thcr : ∀ (W : World) (o : Obj), ((W.alloc o).alloc (.cells #[.int .u64 0, .int .u64 0, .int .u64 0, .int .u64 0, .int .u64 0, .int .u64 0, .int .u64 0, .int .u64 0, .int .u64 0] 165)).there (W.heap.size + 1) 0 (rs.map (Value.int .u64)).length := fun W o => (Blk.newS W o [.int .u64 0, .int .u64 0, .int .u64 0, .int .u64 0, .int .u64 0, .int .u64 0, .int .u64 0, .int .u64 0, .int .u64 0] _).there hrl9
   have thdr : ∀ (W : World) (o : Obj) (b : Nat) (vs : List Value), (((W.alloc o).alloc (.cells #[.int .u64 0, .int .u64 0, .int .u64 0, .int .u64 0, .int .u64 0, .int .u64 0, .int .u64 0, .int .u64 0, .int .u64 0] 165)).setCells b 0 vs).there (W.heap.size + 1) 0 (rs.map (Value.int .u64)).length := fun W o b vs => there_cells _ _ _ _ _ ((Blk.newS W o [.int .u64 0, .int .u64 0, .int .u64 0, .int .u64 0, .int .u64 0, .int .u64 0, .int .u64 0, .int .u64 0, .int .u64 0] _).there hrl9)
   have ther : ∀ (W : World) (o : Obj) (b : Nat) (vs : List Value), (((W.alloc (.cells #[.int .u64 0, .int .u64 0, .int .u64 0, .int .u64 0, .int .u64 0, .int .u64 0, .int .u64 0, .int .u64 0, .int .u64 0] 165)).alloc o).setCells b 0 vs).there W.heap.size 0 (rs.map (Value.int .u64)).length := fun W o b vs => there_cells _ _ _ _ _ (((Blk.new W [.int .u64 0, .int .u64 0, .int .u64 0, .int .u64 0, .int .u64 0, .int .u64 0, .int .u64 0, .int .u64 0, .int .u64 0] _ rfl).alloc o).there hrl9)
   have thfr : ∀ (W : World) (b g : Nat) (vs : List Value), W.there g 0 (rs.map (Value.int .u64)).length → (W.setCells b 0 vs).there g 0 (rs.map (Value.int .u64)).length := fun W b g vs h => there_cells _ _ _ _ _ h
   have thgr : ∀ (W : World) (o : Obj) (g : Nat), W.there g 0 (rs.map (Value.int .u64)).length → (W.alloc o).there g 0 (rs.map (Value.int .u64)).length := fun W o g h => World.there_alloc h o
   clear hbl hrl is0
   go_region_held3 (fun w' => w'.cell? ⟨w.heap.size, 0, none⟩ = some (.int .u64 x0) ∧ w'.cell? ⟨w.heap.size, 1, none⟩ = some (.int .u64 x1) ∧ w'.cell? ⟨w.heap.size, 2, none⟩ = some (.int .u64 x2) ∧ w'.cell? ⟨w.heap.size, 3, none⟩ = some (.int .u64 x3) ∧ w'.cell? ⟨w.heap.size, 4, none⟩ = some (.int .u64 x4) ∧ w'.cell? ⟨w.heap.size, 5, none⟩ = some (.int .u64 x5) ∧ w'.cell? ⟨w.heap.size, 6, none⟩ = some (.int .u64 x6) ∧ w'.cell? ⟨w.heap.size, 7, none⟩ = some (.int .u64 x7) ∧ w'.cell? ⟨w.heap.size + 1, 0, none⟩ = some (.int .u64 y0) ∧ w'.cell? ⟨w.heap.size + 1, 1, none⟩ = some (.int .u64 y1) ∧ w'.cell? ⟨w.heap.size + 1, 2, none⟩ = some (.int .u64 y2) ∧ w'.cell? ⟨w.heap.size + 1, 3, none⟩ = some (.int .u64 y3) ∧ w'.cell? ⟨w.heap.size + 1, 4, none⟩ = some (.int .u64 y4) ∧ w'.cell? ⟨w.heap.size + 1, 5, none⟩ = some (.int .u64 y5) ∧ w'.cell? ⟨w.heap.size + 1, 6, none⟩ = some (.int .u64 y6) ∧ w'.cell? ⟨w.heap.size + 1, 7, none⟩ = some (.int .u64 y7)) ((refine dl_cells ?_; repeat (first | (with_reducible exact T0) | (with_reducible refine ArgsB.drew ?_) | (with_reducible refine ArgsB.alloc ?_ _) | (with_reducible refine ArgsB.cells ?_ (by have := T0.lt4; first | omega | (simp; omega)) _))))
     (first
       | (go_at_call 123; have _t := tok1; refine (LY _).mono ?_; rintro e w3 ⟨rfl, hB⟩; (first | (have T1 : ArgsB w w3 _ := (by with_reducible exact T0.step hB); have hltw3 := T0.lt4; try (replace G0 := G0.step hB; have jtb := G0.there (n := (bs.map (Value.int .u64)).length) hbl9; have jtr := G0.there (n := (rs.map (Value.int .u64)).length) hrl9; obtain ⟨j0c, j0f, j1c, j1f, j2c, j2f, j3c, j3f, j4c, j4f, j5c, j5f, j6c, j6f, j7c, j7f, j8c, j8f⟩ := G0.cf9; have jlt := G0.lt); try (replace G1 := G1.step hB; have ktb := G1.there (n := (bs.map (Value.int .u64)).length) hbl9; have ktr := G1.there (n := (rs.map (Value.int .u64)).length) hrl9; obtain ⟨k0c, k0f, k1c, k1f, k2c, k2f, k3c, k3f, k4c, k4f, k5c, k5f, k6c, k6f, k7c, k7f, k8c, k8f⟩ := G1.cf9; have klt := G1.lt)) | (have T1 : ArgsB w w3 _ := (by with_reducible exact T0.drew.step hB); have hltw3 := T0.lt4; try (replace G0 := G0.drew.step hB; have jtb := G0.there (n := (bs.map (Value.int .u64)).length) hbl9; have jtr := G0.there (n := (rs.map (Value.int .u64)).length) hrl9; obtain ⟨j0c, j0f, j1c, j1f, j2c, j2f, j3c, j3f, j4c, j4f, j5c, j5f, j6c, j6f, j7c, j7f, j8c, j8f⟩ := G0.cf9; have jlt := G0.lt); try (replace G1 := G1.drew.step hB; have ktb := G1.there (n := (bs.map (Value.int .u64)).length) hbl9; have ktr := G1.there (n := (rs.map (Value.int .u64)).length) hrl9; obtain ⟨k0c, k0f, k1c, k1f, k2c, k2f, k3c, k3f, k4c, k4f, k5c, k5f, k6c, k6f, k7c, k7f, k8c, k8f⟩ := G1.cf9; have klt := G1.lt)) | (have T1 : ArgsB w w3 _ := (by with_reducible exact (T0.alloc _).step hB); have hltw3 := T0.lt4; (first | (have G1 := (Blk.new _ [.int .u64 0, .int .u64 0, .int .u64 0, .int .u64 0, .int .u64 0, .int .u64 0, .int .u64 0, .int .u64 0, .int .u64 0] _ rfl).step hB; have hgg := G0.lt; replace G0 := (G0.alloc _).step hB; have jtb := G0.there (n := (bs.map (Value.int .u64)).length) hbl9; have jtr := G0.there (n := (rs.map (Value.int .u64)).length) hrl9; obtain ⟨j0c, j0f, j1c, j1f, j2c, j2f, j3c, j3f, j4c, j4f, j5c, j5f, j6c, j6f, j7c, j7f, j8c, j8f⟩ := G0.cf9; have jlt := G0.lt; have ktb := G1.there (n := (bs.map (Value.int .u64)).length) hbl9; have ktr := G1.there (n := (rs.map (Value.int .u64)).length) hrl9; obtain ⟨k0c, k0f, k1c, k1f, k2c, k2f, k3c, k3f, k4c, k4f, k5c, k5f, k6c, k6f, k7c, k7f, k8c, k8f⟩ := G1.cf9; have klt := G1.lt) | (have G0 := (Blk.new _ [.int .u64 0, .int .u64 0, .int .u64 0, .int .u64 0, .int .u64 0, .int .u64 0, .int .u64 0, .int .u64 0, .int .u64 0] _ rfl).step hB; have jtb := G0.there (n := (bs.map (Value.int .u64)).length) hbl9; have jtr := G0.there (n := (rs.map (Value.int .u64)).length) hrl9; obtain ⟨j0c, j0f, j1c, j1f, j2c, j2f, j3c, j3f, j4c, j4f, j5c, j5f, j6c, j6f, j7c, j7f, j8c, j8f⟩ := G0.cf9; have jlt := G0.lt))) | (have T1 : ArgsB w w3 _ := (by with_reducible exact (T0.alloc _).drew.step hB); have hltw3 := T0.lt4; (first | (have G1 := (Blk.new _ [.int .u64 0, .int .u64 0, .int .u64 0, .int .u64 0, .int .u64 0, .int .u64 0, .int .u64 0, .int .u64 0, .int .u64 0] _ rfl).drew.step hB; have hgg := G0.lt; replace G0 := (G0.alloc _).drew.step hB; have jtb := G0.there (n := (bs.map (Value.int .u64)).length) hbl9; have jtr := G0.there (n := (rs.map (Value.int .u64)).length) hrl9; obtain ⟨j0c, j0f, j1c, j1f, j2c, j2f, j3c, j3f, j4c, j4f, j5c, j5f, j6c, j6f, j7c, j7f, j8c, j8f⟩ := G0.cf9; have jlt := G0.lt; have ktb := G1.there (n := (bs.map (Value.int .u64)).length) hbl9; have ktr := G1.there (n := (rs.map (Value.int .u64)).length) hrl9; obtain ⟨k0c, k0f, k1c, k1f, k2c, k2f, k3c, k3f, k4c, k4f, k5c, k5f, k6c, k6f, k7c, k7f, k8c, k8f⟩ := G1.cf9; have klt := G1.lt) | (have G0 := (Blk.new _ [.int .u64 0, .int .u64 0, .int .u64 0, .int .u64 0, .int .u64 0, .int .u64 0, .int .u64 0, .int .u64 0, .int .u64 0] _ rfl).drew.step hB; have jtb := G0.there (n := (bs.map (Value.int .u64)).length) hbl9; have jtr := G0.there (n := (rs.map (Value.int .u64)).length) hrl9; obtain ⟨j0c, j0f, j1c, j1f, j2c, j2f, j3c, j3f, j4c, j4f, j5c, j5f, j6c, j6f, j7c, j7f, j8c, j8f⟩ := G0.cf9; have jlt := G0.lt))) | (have T1 : ArgsB w w3 _ := (by with_reducible exact ((T0.alloc _).alloc _).step hB); have hltw3 := T0.lt4; have G0 := ((Blk.new _ [.int .u64 0, .int .u64 0, .int .u64 0, .int .u64 0, .int .u64 0, .int .u64 0, .int .u64 0, .int .u64 0, .int .u64 0] _ rfl).alloc _).step hB; have G1 := (Blk.newS _ _ [.int .u64 0, .int .u64 0, .int .u64 0, .int .u64 0, .int .u64 0, .int .u64 0, .int .u64 0, .int .u64 0, .int .u64 0] _).step hB; have jtb := G0.there (n := (bs.map (Value.int .u64)).length) hbl9; have jtr := G0.there (n := (rs.map (Value.int .u64)).length) hrl9; obtain ⟨j0c, j0f, j1c, j1f, j2c, j2f, j3c, j3f, j4c, j4f, j5c, j5f, j6c, j6f, j7c, j7f, j8c, j8f⟩ := G0.cf9; have jlt := G0.lt; have ktb := G1.there (n := (bs.map (Value.int .u64)).length) hbl9; have ktr := G1.there (n := (rs.map (Value.int .u64)).length) hrl9; obtain ⟨k0c, k0f, k1c, k1f, k2c, k2f, k3c, k3f, k4c, k4f, k5c, k5f, k6c, k6f, k7c, k7f, k8c, k8f⟩ := G1.cf9; have klt := G1.lt) | (have T1 : ArgsB w w3 _ := (by with_reducible exact ((T0.alloc _).alloc _).drew.step hB); have hltw3 := T0.lt4; have G0 := ((Blk.new _ [.int .u64 0, .int .u64 0, .int .u64 0, .int .u64 0, .int .u64 0, .int .u64 0, .int .u64 0, .int .u64 0, .int .u64 0] _ rfl).alloc _).drew.step hB; have G1 := (Blk.newS _ _ [.int .u64 0, .int .u64 0, .int .u64 0, .int .u64 0, .int .u64 0, .int .u64 0, .int .u64 0, .int .u64 0, .int .u64 0] _).drew.step hB; have jtb := G0.there (n := (bs.map (Value.int .u64)).length) hbl9; have jtr := G0.there (n := (rs.map (Value.int .u64)).length) hrl9; obtain ⟨j0c, j0f, j1c, j1f, j2c, j2f, j3c, j3f, j4c, j4f, j5c, j5f, j6c, j6f, j7c, j7f, j8c, j8f⟩ := G0.cf9; have jlt := G0.lt; have ktb := G1.there (n := (bs.map (Value.int .u64)).length) hbl9; have ktr := G1.there (n := (rs.map (Value.int .u64)).length) hrl9; obtain ⟨k0c, k0f, k1c, k1f, k2c, k2f, k3c, k3f, k4c, k4f, k5c, k5f, k6c, k6f, k7c, k7f, k8c, k8f⟩ := G1.cf9; have klt := G1.lt)); clear T0; have T0 := T1; clear T1; clear tok1 _t hB)
       | (go_at_call 123; refine (LX _).mono ?_; rintro e w4 ⟨rfl, hB⟩; (first | (have T1 : ArgsB w w4 _ := (by with_reducible exact T0.step hB); have hltw4 := T0.lt4; try (replace G0 := G0.step hB; have jtb := G0.there (n := (bs.map (Value.int .u64)).length) hbl9; have jtr := G0.there (n := (rs.map (Value.int .u64)).length) hrl9; obtain ⟨j0c, j0f, j1c, j1f, j2c, j2f, j3c, j3f, j4c, j4f, j5c, j5f, j6c, j6f, j7c, j7f, j8c, j8f⟩ := G0.cf9; have jlt := G0.lt); try (replace G1 := G1.step hB; have ktb := G1.there (n := (bs.map (Value.int .u64)).length) hbl9; have ktr := G1.there (n := (rs.map (Value.int .u64)).length) hrl9; obtain ⟨k0c, k0f, k1c, k1f, k2c, k2f, k3c, k3f, k4c, k4f, k5c, k5f, k6c, k6f, k7c, k7f, k8c, k8f⟩ := G1.cf9; have klt := G1.lt)) | (have T1 : ArgsB w w4 _ := (by with_reducible exact T0.drew.step hB); have hltw4 := T0.lt4; try (replace G0 := G0.drew.step hB; have jtb := G0.there (n := (bs.map (Value.int .u64)).length) hbl9; have jtr := G0.there (n := (rs.map (Value.int .u64)).length) hrl9; obtain ⟨j0c, j0f, j1c, j1f, j2c, j2f, j3c, j3f, j4c, j4f, j5c, j5f, j6c, j6f, j7c, j7f, j8c, j8f⟩ := G0.cf9; have jlt := G0.lt); try (replace G1 := G1.drew.step hB; have ktb := G1.there (n := (bs.map (Value.int .u64)).length) hbl9; have ktr := G1.there (n := (rs.map (Value.int .u64)).length) hrl9; obtain ⟨k0c, k0f, k1c, k1f, k2c, k2f, k3c, k3f, k4c, k4f, k5c, k5f, k6c, k6f, k7c, k7f, k8c, k8f⟩ := G1.cf9; have klt := G1.lt)) | (have T1 : ArgsB w w4 _ := (by with_reducible exact (T0.alloc _).step hB); have hltw4 := T0.lt4; (first | (have G1 := (Blk.new _ [.int .u64 0, .int .u64 0, .int .u64 0, .int .u64 0, .int .u64 0, .int .u64 0, .int .u64 0, .int .u64 0, .int .u64 0] _ rfl).step hB; have hgg := G0.lt; replace G0 := (G0.alloc _).step hB; have jtb := G0.there (n := (bs.map (Value.int .u64)).length) hbl9; have jtr := G0.there (n := (rs.map (Value.int .u64)).length) hrl9; obtain ⟨j0c, j0f, j1c, j1f, j2c, j2f, j3c, j3f, j4c, j4f, j5c, j5f, j6c, j6f, j7c, j7f, j8c, j8f⟩ := G0.cf9; have jlt := G0.lt; have ktb := G1.there (n := (bs.map (Value.int .u64)).length) hbl9; have ktr := G1.there (n := (rs.map (Value.int .u64)).length) hrl9; obtain ⟨k0c, k0f, k1c, k1f, k2c, k2f, k3c, k3f, k4c, k4f, k5c, k5f, k6c, k6f, k7c, k7f, k8c, k8f⟩ := G1.cf9; have klt := G1.lt) | (have G0 := (Blk.new _ [.int .u64 0, .int .u64 0, .int .u64 0, .int .u64 0, .int .u64 0, .int .u64 0, .int .u64 0, .int .u64 0, .int .u64 0] _ rfl).step hB; have jtb := G0.there (n := (bs.map (Value.int .u64)).length) hbl9; have jtr := G0.there (n := (rs.map (Value.int .u64)).length) hrl9; obtain ⟨j0c, j0f, j1c, j1f, j2c, j2f, j3c, j3f, j4c, j4f, j5c, j5f, j6c, j6f, j7c, j7f, j8c, j8f⟩ := G0.cf9; have jlt := G0.lt))) | (have T1 : ArgsB w w4 _ := (by with_reducible exact (T0.alloc _).drew.step hB); have hltw4 := T0.lt4; (first | (have G1 := (Blk.new _ [.int .u64 0, .int .u64 0, .int .u64 0, .int .u64 0, .int .u64 0, .int .u64 0, .int .u64 0, .int .u64 0, .int .u64 0] _ rfl).drew.step hB; have hgg := G0.lt; replace G0 := (G0.alloc _).drew.step hB; have jtb := G0.there (n := (bs.map (Value.int .u64)).length) hbl9; have jtr := G0.there (n := (rs.map (Value.int .u64)).length) hrl9; obtain ⟨j0c, j0f, j1c, j1f, j2c, j2f, j3c, j3f, j4c, j4f, j5c, j5f, j6c, j6f, j7c, j7f, j8c, j8f⟩ := G0.cf9; have jlt := G0.lt; have ktb := G1.there (n := (bs.map (Value.int .u64)).length) hbl9; have ktr := G1.there (n := (rs.map (Value.int .u64)).length) hrl9; obtain ⟨k0c, k0f, k1c, k1f, k2c, k2f, k3c, k3f, k4c, k4f, k5c, k5f, k6c, k6f, k7c, k7f, k8c, k8f⟩ := G1.cf9; have klt := G1.lt) | (have G0 := (Blk.new _ [.int .u64 0, .int .u64 0, .int .u64 0, .int .u64 0, .int .u64 0, .int .u64 0, .int .u64 0, .int .u64 0, .int .u64 0] _ rfl).drew.step hB; have jtb := G0.there (n := (bs.map (Value.int .u64)).length) hbl9; have jtr := G0.there (n := (rs.map (Value.int .u64)).length) hrl9; obtain ⟨j0c, j0f, j1c, j1f, j2c, j2f, j3c, j3f, j4c, j4f, j5c, j5f, j6c, j6f, j7c, j7f, j8c, j8f⟩ := G0.cf9; have jlt := G0.lt))) | (have T1 : ArgsB w w4 _ := (by with_reducible exact ((T0.alloc _).alloc _).step hB); have hltw4 := T0.lt4; have G0 := ((Blk.new _ [.int .u64 0, .int .u64 0, .int .u64 0, .int .u64 0, .int .u64 0, .int .u64 0, .int .u64 0, .int .u64 0, .int .u64 0] _ rfl).alloc _).step hB; have G1 := (Blk.newS _ _ [.int .u64 0, .int .u64 0, .int .u64 0, .int .u64 0, .int .u64 0, .int .u64 0, .int .u64 0, .int .u64 0, .int .u64 0] _).step hB; have jtb := G0.there (n := (bs.map (Value.int .u64)).length) hbl9; have jtr := G0.there (n := (rs.map (Value.int .u64)).length) hrl9; obtain ⟨j0c, j0f, j1c, j1f, j2c, j2f, j3c, j3f, j4c, j4f, j5c, j5f, j6c, j6f, j7c, j7f, j8c, j8f⟩ := G0.cf9; have jlt := G0.lt; have ktb := G1.there (n := (bs.map (Value.int .u64)).length) hbl9; have ktr := G1.there (n := (rs.map (Value.int .u64)).length) hrl9; obtain ⟨k0c, k0f, k1c, k1f, k2c, k2f, k3c, k3f, k4c, k4f, k5c, k5f, k6c, k6f, k7c, k7f, k8c, k8f⟩ := G1.cf9; have klt := G1.lt) | (have T1 : ArgsB w w4 _ := (by with_reducible exact ((T0.alloc _).alloc _).drew.step hB); have hltw4 := T0.lt4; have G0 := ((Blk.new _ [.int .u64 0, .int .u64 0, .int .u64 0, .int .u64 0, .int .u64 0, .int .u64 0, .int .u64 0, .int .u64 0, .int .u64 0] _ rfl).alloc _).drew.step hB; have G1 := (Blk.newS _ _ [.int .u64 0, .int .u64 0, .int .u64 0, .int .u64 0, .int .u64 0, .int .u64 0, .int .u64 0, .int .u64 0, .int .u64 0] _).drew.step hB; have jtb := G0.there (n := (bs.map (Value.int .u64)).length) hbl9; have jtr := G0.there (n := (rs.map (Value.int .u64)).length) hrl9; obtain ⟨j0c, j0f, j1c, j1f, j2c, j2f, j3c, j3f, j4c, j4f, j5c, j5f, j6c, j6f, j7c, j7f, j8c, j8f⟩ := G0.cf9; have jlt := G0.lt; have ktb := G1.there (n := (bs.map (Value.int .u64)).length) hbl9; have ktr := G1.there (n := (rs.map (Value.int .u64)).length) hrl9; obtain ⟨k0c, k0f, k1c, k1f, k2c, k2f, k3c, k3f, k4c, k4f, k5c, k5f, k6c, k6f, k7c, k7f, k8c, k8f⟩ := G1.cf9; have klt := G1.lt)); clear T0; have T0 := T1; clear T1; clear hB))
   all_goals go_wp2_with fail
   all_goals go_meet
   all_goals first | (with_reducible exact cutD_cells ((T0.alloc _).alloc _) ((Blk.new w4 [.int .u64 0, .int .u64 0, .int .u64 0, .int .u64 0, .int .u64 0, .int .u64 0, .int .u64 0, .int .u64 0, .int .u64 0] _ rfl).alloc _) (Blk.newS w4 _ [.int .u64 0, .int .u64 0, .int .u64 0, .int .u64 0, .int .u64 0, .int .u64 0, .int .u64 0, .int .u64 0, .int .u64 0] _) hbl9 hrl9 (by have := T0.lt4; omega) (by have := T0.lt4; omega) (by have := T0.lt4; omega)) | (with_reducible exact cutD_cells ((T0.alloc _).alloc _) (Blk.newS w4 _ [.int .u64 0, .int .u64 0, .int .u64 0, .int .u64 0, .int .u64 0, .int .u64 0, .int .u64 0, .int .u64 0, .int .u64 0] _) ((Blk.new w4 [.int .u64 0, .int .u64 0, .int .u64 0, .int .u64 0, .int .u64 0, .int .u64 0, .int .u64 0, .int .u64 0, .int .u64 0] _ rfl).alloc _) hbl9 hrl9 (by have := T0.lt4; omega) (by have := T0.lt4; omega) (by have := T0.lt4; omega)) | (with_reducible exact cutD_cells (T0.alloc _) (G0.alloc _) (Blk.new w4 [.int .u64 0, .int .u64 0, .int .u64 0, .int .u64 0, .int .u64 0, .int .u64 0, .int .u64 0, .int .u64 0, .int .u64 0] _ rfl) hbl9 hrl9 (by have := T0.lt4; omega) (by have := T0.lt4; omega) (by have := T0.lt4; have := G0.lt; omega)) | (with_reducible exact cutD_cells (T0.alloc _) (Blk.new w4 [.int .u64 0, .int .u64 0, .int .u64 0, .int .u64 0, .int .u64 0, .int .u64 0, .int .u64 0, .int .u64 0, .int .u64 0] _ rfl) (G0.alloc _) hbl9 hrl9 (by have := T0.lt4; omega) (by have := T0.lt4; omega) (by have := T0.lt4; have := G0.lt; omega)) | (with_reducible exact cutD_cells T0 G0 G1 hbl9 hrl9 (by have := T0.lt4; omega) (by have := T0.lt4; omega) (by have := T0.lt4; have := G0.lt; omega)) | (with_reducible exact cutD_cells T0 G1 G0 hbl9 hrl9 (by have := T0.lt4; omega) (by have := T0.lt4; omega) (by have := T0.lt4; have := G0.lt; omega))
 case rest =>
   clear T0 tok1 LY LX
   obtain ⟨gb, gr, hp, hq, hne, hgb, hgr, T0, GB, GR⟩ := hcut
   subst hp; subst hq
   have hl4 := T0.lt4
   have GBL := GB.lt
   have GRL := GR.lt
   have GQ := Blk.new wc [.int .u64 0, .int .u64 0, .int .u64 0, .int .u64 0, .int .u64 0, .int .u64 0, .int .u64 0, .int .u64 0] 68 rfl
   replace T0 := T0.alloc (.cells #[.int .u64 0, .int .u64 0, .int .u64 0, .int .u64 0, .int .u64 0, .int .u64 0, .int .u64 0, .int .u64 0] 68)
   replace GB := GB.alloc (.cells #[.int .u64 0, .int .u64 0, .int .u64 0, .int .u64 0, .int .u64 0, .int .u64 0, .int .u64 0, .int .u64 0] 68)
   replace GR := GR.alloc (.cells #[.int .u64 0, .int .u64 0, .int .u64 0, .int .u64 0, .int .u64 0, .int .u64 0, .int .u64 0, .int .u64 0] 68)
   have gbl : gb < wc.heap.size := GBL
   have grl : gr < wc.heap.size := GRL
   go_upto_region 5 with fail
   generalize wc.alloc (.cells #[.int .u64 0, .int .u64 0, .int .u64 0, .int .u64 0, .int .u64 0, .int .u64 0, .int .u64 0, .int .u64 0] 68) = W1 at *
   generalize wc.heap.size = gq at *
   go_cut [11] (fun p wx => wx = W1 ∧ ∃ c : Nat, c ≤ 9 ∧ (∀ j, c ≤ j → (h : j < rs.length) → rs[j] = 0) ∧ p = .int .i64 (((min c 8 : Nat) : Int) - (n : Int)))
   case first =>
     have RR := blk_row_take GR (k := 9) (by have := HRL.out; omega)
     rw [List.take_of_length_le (by have := HRL.out; omega)] at RR
     go_wp2_with fail
     refine (countWords_any gr 0 9 9 rs _ HRL.out RR (by decide)).mono ?_
     rintro e w5 ⟨c, rfl, c1, c2, c3, rfl⟩
     clear RR c3
     rw [HRL.out] at c1
     have hc9 : (c : Int) ≤ 9 := by omega
     go_wp2_with fail
     all_goals go_meet
     all_goals exact ⟨rfl, c, c1, c2, by congr 1; omega⟩
   case rest =>
     obtain ⟨rfl, c, c1, c2, rfl⟩ := hcut
     obtain ⟨k0, hk0⟩ : ∃ k : Nat, (k : Int) = (if (min c 8 : Nat) < n then 0 else (min c 8 : Nat) - n + 1) := by
       split
       · exact ⟨0, rfl⟩
       · exact ⟨min c 8 - n + 1, by omega⟩
     have D0 := dl_start HRL.out HRW.out HMN.out hn8 c1 c2 HLO.out s64 HRV.out HXL.out k0 hk0
     rw [HRV.out] at D0
     have hk9 : k0 + n ≤ 9 := by split at hk0 <;> omega
     have hp0 : ∃ i : Int, (((min c 8 : Nat) : Int) - (n : Int)) = i ∧ (i + 1 = (k0 : Int) ∨ (k0 = 0 ∧ i < 0)) := ⟨_, rfl, by split at hk0 <;> omega⟩
     obtain ⟨i0, hi0, hi1⟩ := hp0
     rw [hi0]
     have i0l : i0 < 9 := by omega
     have i0g : -9 < i0 := by omega
     clear hi0 hk0 c1 c2
     go_wp2_with fail
     go_loopg [11] k0 (fun k p wr => ∃ (i : Int) (us qs : List Int), p = .int .i64 i ∧ (i + 1 = (k : Int) ∨ (k = 0 ∧ i < 0)) ∧ -9 < i ∧ k + n ≤ 9 ∧ DlI (2 ^ s * val64 xs) (val64 bs) us qs k ∧ ArgsB w wr [[.int .u64 x0, .int .u64 x1, .int .u64 x2, .int .u64 x3, .int .u64 x4, .int .u64 x5, .int .u64 x6, .int .u64 x7], [.int .u64 y0, .int .u64 y1, .int .u64 y2, .int .u64 y3, .int .u64 y4, .int .u64 y5, .int .u64 y6, .int .u64 y7], [.int .u64 0, .int .u64 0, .int .u64 0, .int .u64 0, .int .u64 0, .int .u64 0, .int .u64 0, .int .u64 0], [.int .u64 0, .int .u64 0, .int .u64 0, .int .u64 0, .int .u64 0, .int .u64 0, .int .u64 0, .int .u64 0]] ∧ Blk wr gb (bs.map (Value.int .u64)) ∧ Blk wr gr (us.map (Value.int .u64)) ∧ Blk wr gq (qs.map (Value.int .u64)))
     case atStart => exact ⟨i0, rs, List.replicate 8 0, rfl, hi1, i0g, hk9, D0, T0, GB, GR, GQ⟩
     case round =>
       clear T0 GB GR GQ D0 hi1 hk9 i0l i0g
       obtain ⟨i, us, qs, rfl, hi, ig, hkn, hD, T0, GB, GR, GQ⟩ := hrel
       rcases Nat.eq_zero_or_pos gk with hg0 | hg0
       · subst hg0
         have hneg : i < 0 := by omega
         obtain ⟨E1, E2⟩ := dl_end hD H0.out HBV.out
         have EM : val64 xs % val64 ys < pw64 8 := by
           have h1 := Int.emod_lt_of_pos (val64 xs) H0.out
           have h2 := vq_lt HY.out
           rw [HM.out] at h2
           omega
         have LD := liftDown_any us s (val64 xs % val64 ys) hD.rl hD.rw s64 E2 EM
         have HE1 : Hid (val64 qs = val64 xs / val64 ys) := E1
         have HQW : Hid (Words qs) := hD.qw
         have HB := T0.below
         obtain ⟨u0, u1, u2, u3, u4, u5, u6, u7, u8, hus⟩ := list9 hD.rl
         obtain ⟨q0, q1, q2, q3, q4, q5, q6, q7, rfl⟩ := list8' hD.ql
         have UA : agg us = .agg #[.int .u64 u0, .int .u64 u1, .int .u64 u2, .int .u64 u3, .int .u64 u4, .int .u64 u5, .int .u64 u6, .int .u64 u7, .int .u64 u8] := by rw [hus]; rfl
         rw [UA] at LD
         have GR9 : Blk wr gr [.int .u64 u0, .int .u64 u1, .int .u64 u2, .int .u64 u3, .int .u64 u4, .int .u64 u5, .int .u64 u6, .int .u64 u7, .int .u64 u8] := by have := GR; rw [hus] at this; exact this
         clear E1 E2 EM UA hus GR hD hi
         have OA : Blk wr (w.heap.size + 1 + 1) [.int .u64 0, .int .u64 0, .int .u64 0, .int .u64 0, .int .u64 0, .int .u64 0, .int .u64 0, .int .u64 0] := T0.b 2 rfl
         have OB : Blk wr (w.heap.size + 1 + 1 + 1) [.int .u64 0, .int .u64 0, .int .u64 0, .int .u64 0, .int .u64 0, .int .u64 0, .int .u64 0, .int .u64 0] := T0.b 3 rfl
         replace GQ : Blk wr gq [.int .u64 q0, .int .u64 q1, .int .u64 q2, .int .u64 q3, .int .u64 q4, .int .u64 q5, .int .u64 q6, .int .u64 q7] := GQ
         have uu0c := GR9.c 0 rfl
         have uu1c := GR9.c 1 rfl
         have uu2c := GR9.c 2 rfl
         have uu3c := GR9.c 3 rfl
         have uu4c := GR9.c 4 rfl
         have uu5c := GR9.c 5 rfl
         have uu6c := GR9.c 6 rfl
         have uu7c := GR9.c 7 rfl
         have uu8c := GR9.c 8 rfl
         obtain ⟨qq0c, qq1c, qq2c, qq3c, qq4c, qq5c, qq6c, qq7c⟩ := GQ.cs8
         obtain ⟨oa0c, oa0f, oa1c, oa1f, oa2c, oa2f, oa3c, oa3f, oa4c, oa4f, oa5c, oa5f, oa6c, oa6f, oa7c, oa7f⟩ := OA.cf8; obtain ⟨ob0c, ob0f, ob1c, ob1f, ob2c, ob2f, ob3c, ob3f, ob4c, ob4f, ob5c, ob5f, ob6c, ob6f, ob7c, ob7f⟩ := OB.cf8
         have olta := OA.lt
         have oltb := OB.lt
         clear T0 GB
         go_wp2_with fail
         go_region_with ((go_at_call 125; refine (LD _).mono ?_; rintro e w8 ⟨zs, rfl, z1, z2, z3, hB⟩; (first | (replace GQ := GQ.step hB; replace OA := OA.step hB; replace OB := OB.step hB; replace HB := HB.trans (hB.mono HB.size)) | (replace GQ := GQ.drew.step hB; replace OA := OA.drew.step hB; replace OB := OB.drew.step hB; replace HB := HB.drew.trans (hB.mono HB.size))); clear hB; obtain ⟨qq0c, qq1c, qq2c, qq3c, qq4c, qq5c, qq6c, qq7c⟩ := GQ.cs8; obtain ⟨oa0c, oa0f, oa1c, oa1f, oa2c, oa2f, oa3c, oa3f, oa4c, oa4f, oa5c, oa5f, oa6c, oa6f, oa7c, oa7f⟩ := OA.cf8; obtain ⟨ob0c, ob0f, ob1c, ob1f, ob2c, ob2f, ob3c, ob3f, ob4c, ob4f, ob5c, ob5f, ob6c, ob6f, ob7c, ob7f⟩ := OB.cf8; have olta8 := OA.lt; have oltb8 := OB.lt; obtain ⟨z0, z1', z2', z3', z4, z5, z6, z7, rfl⟩ := list8' z1; unfold agg; simp only [List.map_cons, List.map_nil]))
         all_goals clear GQ OA OB LD GR9
         all_goals go_wp2
         all_goals refine bodyPost_ret (v := .tuple #[.agg #[.int .u64 q0, .int .u64 q1, .int .u64 q2, .int .u64 q3, .int .u64 q4, .int .u64 q5, .int .u64 q6, .int .u64 q7], .agg #[.int .u64 z0, .int .u64 z1', .int .u64 z2', .int .u64 z3', .int .u64 z4, .int .u64 z5, .int .u64 z6, .int .u64 z7]]) (by simp [results, Tryz.results111, go_sem, oa0c, ob0c, oa1c, ob1c, oa2c, ob2c, oa3c, ob3c, oa4c, ob4c, oa5c, ob5c, oa6c, ob6c, oa7c, ob7c]) rfl ?_
         all_goals refine ⟨[q0, q1, q2, q3, q4, q5, q6, q7], [z0, z1', z2', z3', z4, z5, z6, z7], rfl, rfl, rfl, HQW.out, z2, HE1.out, z3, ?_⟩
         all_goals exact below_set8 (g := w.heap.size + 1 + 1 + 1) (by omega) (below_set8 (g := w.heap.size + 1 + 1) (by omega) HB)
       · obtain ⟨p, rfl⟩ : ∃ p, gk = p + 1 := ⟨gk - 1, by omega⟩
         obtain rfl : i = (p : Int) := by omega
         have hpn : p + n ≤ 8 := by omega
         have HKN := dl_kn hD HBL.out HBW.out hn1 hpn HTK.out HTP.out
         have TD := takeDigit_any us bs n p HKN
         have HUL : Hid (us.length = 9) := hD.rl
         have HQL : Hid (qs.length = 8) := hD.ql
         obtain ⟨u0, u1, u2, u3, u4, u5, u6, u7, u8, hus⟩ := list9 hD.rl
         obtain ⟨b0, b1, b2, b3, b4, b5, b6, b7, b8, hbs⟩ := list9 HBL.out
         have UA : agg us = .agg #[.int .u64 u0, .int .u64 u1, .int .u64 u2, .int .u64 u3, .int .u64 u4, .int .u64 u5, .int .u64 u6, .int .u64 u7, .int .u64 u8] := by rw [hus]; rfl
         have BA : agg bs = .agg #[.int .u64 b0, .int .u64 b1, .int .u64 b2, .int .u64 b3, .int .u64 b4, .int .u64 b5, .int .u64 b6, .int .u64 b7, .int .u64 b8] := by rw [hbs]; rfl
         rw [UA, BA] at TD
         have GR9 : Blk wr gr [.int .u64 u0, .int .u64 u1, .int .u64 u2, .int .u64 u3, .int .u64 u4, .int .u64 u5, .int .u64 u6, .int .u64 u7, .int .u64 u8] := by have := GR; rw [hus] at this; exact this
         have GB9 : Blk wr gb [.int .u64 b0, .int .u64 b1, .int .u64 b2, .int .u64 b3, .int .u64 b4, .int .u64 b5, .int .u64 b6, .int .u64 b7, .int .u64 b8] := by have := GB; rw [hbs] at this; exact this
         have uu0c := GR9.c 0 rfl; have uu0f := GR9.f 0 rfl
         have uu1c := GR9.c 1 rfl; have uu1f := GR9.f 1 rfl
         have uu2c := GR9.c 2 rfl; have uu2f := GR9.f 2 rfl
         have uu3c := GR9.c 3 rfl; have uu3f := GR9.f 3 rfl
         have uu4c := GR9.c 4 rfl; have uu4f := GR9.f 4 rfl
         have uu5c := GR9.c 5 rfl; have uu5f := GR9.f 5 rfl
         have uu6c := GR9.c 6 rfl; have uu6f := GR9.f 6 rfl
         have uu7c := GR9.c 7 rfl; have uu7f := GR9.f 7 rfl
         have uu8c := GR9.c 8 rfl; have uu8f := GR9.f 8 rfl
         have bb0c := GB9.c 0 rfl; have bb0f := GB9.f 0 rfl
         have bb1c := GB9.c 1 rfl; have bb1f := GB9.f 1 rfl
         have bb2c := GB9.c 2 rfl; have bb2f := GB9.f 2 rfl
         have bb3c := GB9.c 3 rfl; have bb3f := GB9.f 3 rfl
         have bb4c := GB9.c 4 rfl; have bb4f := GB9.f 4 rfl
         have bb5c := GB9.c 5 rfl; have bb5f := GB9.f 5 rfl
         have bb6c := GB9.c 6 rfl; have bb6f := GB9.f 6 rfl
         have bb7c := GB9.c 7 rfl; have bb7f := GB9.f 7 rfl
         have bb8c := GB9.c 8 rfl; have bb8f := GB9.f 8 rfl
         clear UA BA hus hbs GR
         go_wp2_with fail
         refine (TD _).mono ?_
         rintro e w7 ⟨zs, rfl, z1, z2, z3, hB⟩
         have HLT := HKN.lt
         rw [HTK.out] at z3 HLT ⊢
         have BP : 0 < val64 bs := by have := HKN.pos; rwa [HTK.out] at this
         obtain ⟨HQW, HD2⟩ := dl_step hD hn1 hpn BP HHI.out HLT z1 z2 z3
         replace T0 := T0.step hB
         replace GB := GB.step hB
         replace GR9 := GR9.step hB
         replace GQ := GQ.step hB
         have hpq : p < qs.length := by have := HQL.out; omega
         have qc : w7.cell? ⟨gq, p, none⟩ = some (.int .u64 qs[p]) := GQ.c p (by simp [hpq])
         have qf : w7.frozen? ⟨gq, p, none⟩ = false := GQ.f p (v := .int .u64 qs[p]) (by simp [hpq])
         have hp8 : (p : Int) < 8 := by omega
         generalize val64 (win us p (n + 1)) / val64 bs = qd at *
         have HDH : Hid (DlI (2 ^ s * val64 xs) (val64 bs) zs (qs.set p qd) p) := HD2
         obtain ⟨z0, z1, z2, z3, z4, z5, z6, z7, z8, hzs⟩ := list9 z1
         have ZA : agg zs = .agg #[.int .u64 z0, .int .u64 z1, .int .u64 z2, .int .u64 z3, .int .u64 z4, .int .u64 z5, .int .u64 z6, .int .u64 z7, .int .u64 z8] := by rw [hzs]; rfl
         have HZM : Hid (zs.map (Value.int .u64) = [.int .u64 z0, .int .u64 z1, .int .u64 z2, .int .u64 z3, .int .u64 z4, .int .u64 z5, .int .u64 z6, .int .u64 z7, .int .u64 z8]) := by show _ = _; rw [hzs]; rfl
         rw [ZA]
         have uu0c := GR9.c 0 rfl; have uu0f := GR9.f 0 rfl
         have uu1c := GR9.c 1 rfl; have uu1f := GR9.f 1 rfl
         have uu2c := GR9.c 2 rfl; have uu2f := GR9.f 2 rfl
         have uu3c := GR9.c 3 rfl; have uu3f := GR9.f 3 rfl
         have uu4c := GR9.c 4 rfl; have uu4f := GR9.f 4 rfl
         have uu5c := GR9.c 5 rfl; have uu5f := GR9.f 5 rfl
         have uu6c := GR9.c 6 rfl; have uu6f := GR9.f 6 rfl
         have uu7c := GR9.c 7 rfl; have uu7f := GR9.f 7 rfl
         have uu8c := GR9.c 8 rfl; have uu8f := GR9.f 8 rfl
         clear ZA hzs hB HD2 hD HKN TD GB9
         go_wp2
         go_roundg p
         case measure => omega
         case rel =>
           refine ⟨(p : Int) - 1, zs, qs.set p qd, by go_num, Or.inl (by omega), by omega, by omega, HDH.out, ?_, ?_, ?_, ?_⟩
           · exact (T0.set (p := ⟨gq, p, none⟩) (by show w.heap.size + 4 ≤ gq; omega) _).set9 hgr _ _ _ _ _ _ _ _ _
           · exact (GB.setO (p := ⟨gq, p, none⟩) (by show gb ≠ gq; omega) _).set9 hne
           · rw [HZM.out]
             exact (GR9.setO (p := ⟨gq, p, none⟩) (by show gr ≠ gq; omega) _).stored9 _ _ _ _ _ _ _ _ _
           · have := GQ.setI p (by simpa using hpq) (.int .u64 qd)
             rw [← List.map_set] at this
             exact this.set9 (by omega)
theorem tw_cells {x0 x1 x2 x3 x4 x5 x6 x7 : Int} {w W : World} (h : ArgsB w W [[.int .u64 x0, .int .u64 x1, .int .u64 x2, .int .u64 x3, .int .u64 x4, .int .u64 x5, .int .u64 x6, .int .u64 x7], [.int .u64 0, .int .u64 0, .int .u64 0, .int .u64 0], [.int .u64 x3, .int .u64 x2, .int .u64 x1, .int .u64 x0]]) : (fun w' => w'.cell? ⟨w.heap.size, 0, none⟩ = some (.int .u64 x0) ∧ w'.cell? ⟨w.heap.size, 1, none⟩ = some (.int .u64 x1) ∧ w'.cell? ⟨w.heap.size, 2, none⟩ = some (.int .u64 x2) ∧ w'.cell? ⟨w.heap.size, 3, none⟩ = some (.int .u64 x3) ∧ w'.cell? ⟨w.heap.size, 4, none⟩ = some (.int .u64 x4) ∧ w'.cell? ⟨w.heap.size, 5, none⟩ = some (.int .u64 x5) ∧ w'.cell? ⟨w.heap.size, 6, none⟩ = some (.int .u64 x6) ∧ w'.cell? ⟨w.heap.size, 7, none⟩ = some (.int .u64 x7) ∧ w'.cell? ⟨w.heap.size + 1 + 1, 0, none⟩ = some (.int .u64 x3) ∧ w'.cell? ⟨w.heap.size + 1 + 1, 1, none⟩ = some (.int .u64 x2) ∧ w'.cell? ⟨w.heap.size + 1 + 1, 2, none⟩ = some (.int .u64 x1) ∧ w'.cell? ⟨w.heap.size + 1 + 1, 3, none⟩ = some (.int .u64 x0)) W :=
 ⟨(h.b 0 rfl).c 0 rfl, (h.b 0 rfl).c 1 rfl, (h.b 0 rfl).c 2 rfl, (h.b 0 rfl).c 3 rfl, (h.b 0 rfl).c 4 rfl, (h.b 0 rfl).c 5 rfl, (h.b 0 rfl).c 6 rfl, (h.b 0 rfl).c 7 rfl, (h.b 2 rfl).c 0 rfl, (h.b 2 rfl).c 1 rfl, (h.b 2 rfl).c 2 rfl, (h.b 2 rfl).c 3 rfl⟩
theorem tw_start (x0 x1 x2 x3 x4 x5 x6 x7 : Int) (w : World) : ArgsB w (((w.alloc (.cells #[.int .u64 x0, .int .u64 x1, .int .u64 x2, .int .u64 x3, .int .u64 x4, .int .u64 x5, .int .u64 x6, .int .u64 x7] 68)).alloc (.cells #[.int .u64 0, .int .u64 0, .int .u64 0, .int .u64 0] 32)).alloc (.cells #[.int .u64 x3, .int .u64 x2, .int .u64 x1, .int .u64 x0] 32)) [[.int .u64 x0, .int .u64 x1, .int .u64 x2, .int .u64 x3, .int .u64 x4, .int .u64 x5, .int .u64 x6, .int .u64 x7], [.int .u64 0, .int .u64 0, .int .u64 0, .int .u64 0], [.int .u64 x3, .int .u64 x2, .int .u64 x1, .int .u64 x0]] := by
 refine ⟨(((Below.refl _ _).alloc (Nat.le_refl _) _).alloc (by simp) _).alloc (by simp; omega) _, fun j vs hj => ?_⟩
 match j, hj with
 | 0, hj => cases hj; exact ((Blk.new w [.int .u64 x0, .int .u64 x1, .int .u64 x2, .int .u64 x3, .int .u64 x4, .int .u64 x5, .int .u64 x6, .int .u64 x7] 68 rfl).alloc _).alloc _
 | 1, hj => cases hj; exact (Blk.new (w.alloc (.cells #[.int .u64 x0, .int .u64 x1, .int .u64 x2, .int .u64 x3, .int .u64 x4, .int .u64 x5, .int .u64 x6, .int .u64 x7] 68)) [.int .u64 0, .int .u64 0, .int .u64 0, .int .u64 0] 32 (by simp)).alloc _
 | 2, hj => cases hj; exact Blk.new ((w.alloc (.cells #[.int .u64 x0, .int .u64 x1, .int .u64 x2, .int .u64 x3, .int .u64 x4, .int .u64 x5, .int .u64 x6, .int .u64 x7] 68)).alloc (.cells #[.int .u64 0, .int .u64 0, .int .u64 0, .int .u64 0] 32)) [.int .u64 x3, .int .u64 x2, .int .u64 x1, .int .u64 x0] 32 (by simp)
 | j + 3, hj => simp at hj
theorem words8_of {x0 x1 x2 x3 x4 x5 x6 x7 : Int} (h : Words [x0, x1, x2, x3, x4, x5, x6, x7]) : Word x0 ∧ Word x1 ∧ Word x2 ∧ Word x3 ∧ Word x4 ∧ Word x5 ∧ Word x6 ∧ Word x7 := ⟨h _ (by simp), h _ (by simp), h _ (by simp), h _ (by simp), h _ (by simp), h _ (by simp), h _ (by simp), h _ (by simp)⟩
theorem sl_told {x0 x1 x2 x3 x4 x5 x6 x7 : Int} (h : Words [x0, x1, x2, x3, x4, x5, x6, x7]) (he : x4 = fillW x3 ∧ x5 = fillW x3 ∧ x6 = fillW x3 ∧ x7 = fillW x3) : told (sl x0 x1 x2 x3 x4 x5 x6 x7) = true ∧ sw x3 x2 x1 x0 = sl x0 x1 x2 x3 x4 x5 x6 x7 := by
 obtain ⟨h0, h1, h2, h3, h4, h5, h6, h7⟩ := words8_of h
 obtain ⟨e4, e5, e6, e7⟩ := he
 have hs : sw x3 x2 x1 x0 = sl x0 x1 x2 x3 x4 x5 x6 x7 := by
   unfold sl sw uw fillW Word at *
   simp only [val64]
   by_cases p : x3 < 9223372036854775808
   · rw [if_pos p] at e4 e5 e6 e7 ⊢
     subst e4 e5 e6 e7
     rw [if_pos (by decide)]
     omega
   · rw [if_neg p] at e4 e5 e6 e7 ⊢
     subst e4 e5 e6 e7
     rw [if_neg (by decide)]
     omega
 refine ⟨?_, hs⟩
 rw [← hs]
 unfold told
 apply decide_eq_true
 unfold sw uw Word at *
 by_cases p : x3 < 9223372036854775808
 · rw [if_pos p]; omega
 · rw [if_neg p]; omega
theorem sl_not {x0 x1 x2 x3 x4 x5 x6 x7 : Int} (h : Words [x0, x1, x2, x3, x4, x5, x6, x7]) (he : ¬ (x4 = fillW x3 ∧ x5 = fillW x3 ∧ x6 = fillW x3 ∧ x7 = fillW x3)) : told (sl x0 x1 x2 x3 x4 x5 x6 x7) = false := by
 obtain ⟨h0, h1, h2, h3, h4, h5, h6, h7⟩ := words8_of h
 unfold told
 apply decide_eq_false
 intro hh
 unfold sl fillW Word at *
 simp only [val64] at hh
 by_cases p : x3 < 9223372036854775808 <;> by_cases q : x7 < 9223372036854775808
 · rw [if_pos p] at he; rw [if_pos q] at hh; omega
 · rw [if_pos p] at he; rw [if_neg q] at hh; omega
 · rw [if_neg p] at he; rw [if_pos q] at hh; omega
 · rw [if_neg p] at he; rw [if_neg q] at hh; omega
theorem eqLong (x0 x1 x2 x3 y4 y5 y6 y7 x4 x5 x6 x7 : Int) (w : World) : (Op.equalIn 10000 68 (L8 x0 x1 x2 x3 y4 y5 y6 y7) (L8 x0 x1 x2 x3 x4 x5 x6 x7)).run Tryz.prog w = .ok (y4 == x4 && y5 == x5 && y6 == x6 && y7 == x7) w := by
 have u3 := Tryz.underlying30
 have a3 := Tryz.isAgg30
 have z3 := Tryz.sizeOf30
 rw [show (10000 : Nat) = 9999 + 1 from rfl, Op.equalIn]
 simp only [Sem.run_bind, run_underlying Tryz.underlying68, Result.andThen_ok]
 simp only [Std.Legacy.Range.forIn_eq_forIn_range', Std.Legacy.Range.size, Nat.sub_zero, Nat.add_sub_cancel, Nat.div_one, List.range'_succ, List.range'_zero, List.forIn_cons, List.forIn_nil]
 go_simp
 by_cases h4 : y4 = x4 <;> by_cases h5 : y5 = x5 <;> by_cases h6 : y6 = x6 <;> by_cases h7 : y7 = x7 <;> simp [h4, h5, h6, h7]
theorem tellWide_any (x0 x1 x2 x3 x4 x5 x6 x7 : Int) (wx : Words [x0, x1, x2, x3, x4, x5, x6, x7]) (w : World) :
   Calls Tryz.prog 59 #[L8 x0 x1 x2 x3 x4 x5 x6 x7] w (TellP (sl x0 x1 x2 x3 x4 x5 x6 x7) w) := by
 have T0 := tw_start x0 x1 x2 x3 x4 x5 x6 x7 w
 have h3 := (words8_of wx).2.2.2.1
 have EQ : ∀ W : World, (Op.equalIn 10000 68 (L8 x0 x1 x2 x3 (fillW x3) (fillW x3) (fillW x3) (fillW x3)) (L8 x0 x1 x2 x3 x4 x5 x6 x7)).run Tryz.prog W = .ok (fillW x3 == x4 && fillW x3 == x5 && fillW x3 == x6 && fillW x3 == x7) W := eqLong _ _ _ _ _ _ _ _ _ _ _ _
 obtain ⟨B, hB0⟩ : ∃ B, (fillW x3 == x4 && fillW x3 == x5 && fillW x3 == x6 && fillW x3 == x7) = B := ⟨_, rfl⟩
 simp only [hB0] at EQ
 go_enter Tryz.func59, Tryz.ntmps59
 go_upto_region 2 with fail
 generalize (((w.alloc (.cells #[.int .u64 x0, .int .u64 x1, .int .u64 x2, .int .u64 x3, .int .u64 x4, .int .u64 x5, .int .u64 x6, .int .u64 x7] 68)).alloc (.cells #[.int .u64 0, .int .u64 0, .int .u64 0, .int .u64 0] 32)).alloc (.cells #[.int .u64 x3, .int .u64 x2, .int .u64 x1, .int .u64 x0] 32)) = W at *
 go_cut [17] (fun q wc => q = .bool (!B) ∧ ArgsB w wc [[.int .u64 x0, .int .u64 x1, .int .u64 x2, .int .u64 x3, .int .u64 x4, .int .u64 x5, .int .u64 x6, .int .u64 x7], [.int .u64 0, .int .u64 0, .int .u64 0, .int .u64 0], [.int .u64 x3, .int .u64 x2, .int .u64 x1, .int .u64 x0]])
 case first =>
   go_region_held3 (fun w' => w'.cell? ⟨w.heap.size, 0, none⟩ = some (.int .u64 x0) ∧ w'.cell? ⟨w.heap.size, 1, none⟩ = some (.int .u64 x1) ∧ w'.cell? ⟨w.heap.size, 2, none⟩ = some (.int .u64 x2) ∧ w'.cell? ⟨w.heap.size, 3, none⟩ = some (.int .u64 x3) ∧ w'.cell? ⟨w.heap.size, 4, none⟩ = some (.int .u64 x4) ∧ w'.cell? ⟨w.heap.size, 5, none⟩ = some (.int .u64 x5) ∧ w'.cell? ⟨w.heap.size, 6, none⟩ = some (.int .u64 x6) ∧ w'.cell? ⟨w.heap.size, 7, none⟩ = some (.int .u64 x7) ∧ w'.cell? ⟨w.heap.size + 1 + 1, 0, none⟩ = some (.int .u64 x3) ∧ w'.cell? ⟨w.heap.size + 1 + 1, 1, none⟩ = some (.int .u64 x2) ∧ w'.cell? ⟨w.heap.size + 1 + 1, 2, none⟩ = some (.int .u64 x1) ∧ w'.cell? ⟨w.heap.size + 1 + 1, 3, none⟩ = some (.int .u64 x0)) (first | (with_reducible exact tw_cells T0) | (with_reducible exact tw_cells T0.drew))
     ((go_at_call 58; refine (longOf_any x3 x2 x1 x0 h3 _).mono ?_; rintro e w1 ⟨rfl, hB⟩; (first | (have T1 := T0.step hB) | (have T1 := T0.drew.step hB)); clear T0; have T0 := T1; clear T1; clear hB))
   all_goals go_wp2_with fail
   all_goals go_meet
   all_goals first | exact ⟨rfl, T0⟩ | exact ⟨rfl, T0.drew⟩
 case rest =>
   clear T0 EQ
   obtain ⟨hq, T0⟩ := hcut
   subst hq
   have HB := T0.below
   have p0 := (T0.b 1 rfl).c 0 rfl; have f0 := (T0.b 1 rfl).f 0 rfl; have q0 := (T0.b 2 rfl).c 0 rfl; have p1 := (T0.b 1 rfl).c 1 rfl; have f1 := (T0.b 1 rfl).f 1 rfl; have q1 := (T0.b 2 rfl).c 1 rfl; have p2 := (T0.b 1 rfl).c 2 rfl; have f2 := (T0.b 1 rfl).f 2 rfl; have q2 := (T0.b 2 rfl).c 2 rfl; have p3 := (T0.b 1 rfl).c 3 rfl; have f3 := (T0.b 1 rfl).f 3 rfl; have q3 := (T0.b 2 rfl).c 3 rfl
   have l1 := (T0.b 1 rfl).lt
   have l2 := (T0.b 2 rfl).lt
   clear T0
   cases B
   · have hn : ¬ (x4 = fillW x3 ∧ x5 = fillW x3 ∧ x6 = fillW x3 ∧ x7 = fillW x3) := by
       rintro ⟨e4, e5, e6, e7⟩
       rw [← e4] at hB0
       simp [← e4, e5, e6, e7] at hB0
     have HT := sl_not wx hn
     clear hB0 hn
     go_wp2
     refine bodyPost_ret (v := .tuple #[.agg #[.int .u64 0, .int .u64 0, .int .u64 0, .int .u64 0], .bool false]) (by simp [results, Tryz.results59, go_sem, p0, p1, p2, p3]) rfl ?_
     refine ⟨?_, Or.inr ⟨HT, rfl⟩⟩
     repeat' (refine Below.setCell ?_ (by simp) _)
     exact HB
   · have he : x4 = fillW x3 ∧ x5 = fillW x3 ∧ x6 = fillW x3 ∧ x7 = fillW x3 := by
       simp at hB0
       obtain ⟨⟨⟨e4, e5⟩, e6⟩, e7⟩ := hB0
       exact ⟨e4.symm, e5.symm, e6.symm, e7.symm⟩
     have HT := sl_told wx he
     obtain ⟨w0, w1, w2, w3, -, -, -, -⟩ := words8_of wx
     clear hB0 he
     go_wp2
     refine bodyPost_ret (v := .tuple #[.agg #[.int .u64 x3, .int .u64 x2, .int .u64 x1, .int .u64 x0], .bool true]) (by simp [results, Tryz.results59, go_sem, p0, p1, p2, p3]) rfl ?_
     refine ⟨?_, Or.inl ⟨HT.1, x3, x2, x1, x0, rfl, w3, w2, w1, w0, HT.2⟩⟩
     repeat' (refine Below.setCell ?_ (by simp) _)
     exact HB
theorem uw_same {x3 x2 x1 x0 y3 y2 y1 y0 : Int} (_h3 : Word x3) (h2 : Word x2) (h1 : Word x1) (h0 : Word x0) (_k3 : Word y3) (k2 : Word y2) (k1 : Word y1) (k0 : Word y0) (h : uw x3 x2 x1 x0 = uw y3 y2 y1 y0) : x3 = y3 ∧ x2 = y2 ∧ x1 = y1 ∧ x0 = y0 := by
 unfold Word uw at *
 omega
theorem size_words (n : Int) (h0 : 0 ≤ n) (h1 : n < 115792089237316195423570985008687907853269984665640564039457584007913129639936) : ∃ x3 x2 x1 x0, Word x3 ∧ Word x2 ∧ Word x1 ∧ Word x0 ∧ uw x3 x2 x1 x0 = n := by
 refine ⟨n / 18446744073709551616 / 18446744073709551616 / 18446744073709551616, n / 18446744073709551616 / 18446744073709551616 % 18446744073709551616, n / 18446744073709551616 % 18446744073709551616, n % 18446744073709551616, ?_⟩
 unfold Word uw
 omega
theorem sw_size {a3 a2 a1 a0 : Int} (h3 : Word a3) (h2 : Word a2) (h1 : Word a1) (h0 : Word a0) : ((sw a3 a2 a1 a0).natAbs : Int) ≤ 57896044618658097711785492504343953926634992332820282019728792003956564819968 := by
 unfold Word sw uw at *
 split <;> omega
theorem sizeOf_det (a3 a2 a1 a0 : Int) (h3 : Word a3) (h2 : Word a2) (h1 : Word a1) (h0 : Word a0) (x3 x2 x1 x0 : Int) (g3 : Word x3) (g2 : Word x2) (g1 : Word x1) (g0 : Word x0) (hx : uw x3 x2 x1 x0 = ((sw a3 a2 a1 a0).natAbs : Int)) (w : World) :
   Calls Tryz.prog 60 #[.agg #[.int .u64 a3, .int .u64 a2, .int .u64 a1, .int .u64 a0]] w (WideP x0 x1 x2 x3 w) := by
 refine (sizeOf_any a3 a2 a1 a0 h3 h2 h1 h0 w).mono ?_
 rintro e w1 ⟨y3, y2, y1, y0, rfl, k3, k2, k1, k0, hu, hB⟩
 obtain ⟨rfl, rfl, rfl, rfl⟩ := uw_same k3 k2 k1 k0 g3 g2 g1 g0 (hu.trans hx.symm)
 exact ⟨rfl, hB⟩
theorem tm_cells {a3 a2 a1 a0 b3 b2 b1 b0 : Int} {w W : World} (h : ArgsB w W [[.int .u64 a3, .int .u64 a2, .int .u64 a1, .int .u64 a0], [.int .u64 b3, .int .u64 b2, .int .u64 b1, .int .u64 b0], [.int .u64 0, .int .u64 0, .int .u64 0, .int .u64 0, .int .u64 0, .int .u64 0, .int .u64 0, .int .u64 0]]) : (fun w' => w'.cell? ⟨w.heap.size, 0, none⟩ = some (.int .u64 a3) ∧ w'.cell? ⟨w.heap.size, 1, none⟩ = some (.int .u64 a2) ∧ w'.cell? ⟨w.heap.size, 2, none⟩ = some (.int .u64 a1) ∧ w'.cell? ⟨w.heap.size, 3, none⟩ = some (.int .u64 a0) ∧ w'.cell? ⟨w.heap.size + 1, 0, none⟩ = some (.int .u64 b3) ∧ w'.cell? ⟨w.heap.size + 1, 1, none⟩ = some (.int .u64 b2) ∧ w'.cell? ⟨w.heap.size + 1, 2, none⟩ = some (.int .u64 b1) ∧ w'.cell? ⟨w.heap.size + 1, 3, none⟩ = some (.int .u64 b0)) W :=
 ⟨(h.b 0 rfl).c 0 rfl, (h.b 0 rfl).c 1 rfl, (h.b 0 rfl).c 2 rfl, (h.b 0 rfl).c 3 rfl, (h.b 1 rfl).c 0 rfl, (h.b 1 rfl).c 1 rfl, (h.b 1 rfl).c 2 rfl, (h.b 1 rfl).c 3 rfl⟩
theorem tm_args (a3 a2 a1 a0 b3 b2 b1 b0 : Int) (w : World) : ArgsB w (((w.alloc (.cells #[.int .u64 a3, .int .u64 a2, .int .u64 a1, .int .u64 a0] 32)).alloc (.cells #[.int .u64 b3, .int .u64 b2, .int .u64 b1, .int .u64 b0] 32)).alloc (.cells #[.int .u64 0, .int .u64 0, .int .u64 0, .int .u64 0, .int .u64 0, .int .u64 0, .int .u64 0, .int .u64 0] 68)) [[.int .u64 a3, .int .u64 a2, .int .u64 a1, .int .u64 a0], [.int .u64 b3, .int .u64 b2, .int .u64 b1, .int .u64 b0], [.int .u64 0, .int .u64 0, .int .u64 0, .int .u64 0, .int .u64 0, .int .u64 0, .int .u64 0, .int .u64 0]] := by
 refine ⟨(((Below.refl _ _).alloc (Nat.le_refl _) _).alloc (by simp) _).alloc (by simp; omega) _, fun j vs hj => ?_⟩
 match j, hj with
 | 0, hj => cases hj; exact ((Blk.new w [.int .u64 a3, .int .u64 a2, .int .u64 a1, .int .u64 a0] 32 rfl).alloc _).alloc _
 | 1, hj => cases hj; exact (Blk.new (w.alloc (.cells #[.int .u64 a3, .int .u64 a2, .int .u64 a1, .int .u64 a0] 32)) [.int .u64 b3, .int .u64 b2, .int .u64 b1, .int .u64 b0] 32 (by simp)).alloc _
 | 2, hj => cases hj; exact Blk.new ((w.alloc (.cells #[.int .u64 a3, .int .u64 a2, .int .u64 a1, .int .u64 a0] 32)).alloc (.cells #[.int .u64 b3, .int .u64 b2, .int .u64 b1, .int .u64 b0] 32)) [.int .u64 0, .int .u64 0, .int .u64 0, .int .u64 0, .int .u64 0, .int .u64 0, .int .u64 0, .int .u64 0] 68 (by simp)
 | j + 3, hj => simp at hj
theorem ArgsB.lt3 {w W : World} {a b c : List Value} (h : ArgsB w W [a, b, c]) : w.heap.size + 2 < W.heap.size := (h.b 2 rfl).lt
theorem ArgsB.set4 {w W : World} {a b c : List Value} (h : ArgsB w W [a, b, c]) {g : Nat} (hg : w.heap.size + 2 < g) (v0 v1 v2 v3 : Value) : ArgsB w ((((W.setCell ⟨g, 0, none⟩ v0).setCell ⟨g, 1, none⟩ v1).setCell ⟨g, 2, none⟩ v2).setCell ⟨g, 3, none⟩ v3) [a, b, c] :=
 (((h.set (by exact hg) _).set (by exact hg) _).set (by exact hg) _).set (by exact hg) _
theorem Blk.stored4 {W : World} {g : Nat} {z0 z1 z2 z3 : Value} (G : Blk W g [z0, z1, z2, z3]) (v0 v1 v2 v3 : Value) : Blk ((((W.setCell ⟨g, 0, none⟩ v0).setCell ⟨g, 1, none⟩ v1).setCell ⟨g, 2, none⟩ v2).setCell ⟨g, 3, none⟩ v3) g [v0, v1, v2, v3] :=
 (((G.setI 0 (by simp) v0).setI 1 (by simp) v1).setI 2 (by simp) v2).setI 3 (by simp) v3
theorem Blk.new2 (W : World) (o : Obj) (vs : List Value) (T : TypeId) : Blk ((W.alloc o).alloc (.cells vs.toArray T)) (W.heap.size + 1) vs := Blk.new _ _ _ (by simp)
def CutT (w wx : World) (vss : List (List Value)) (xs ys : List Value) (p q : Value) : Prop :=
 ∃ g g', p = .pointer (some ⟨g, 0, none⟩) ∧ q = .pointer (some ⟨g', 0, none⟩) ∧ g ≠ g' ∧ w.heap.size + 2 < g ∧ w.heap.size + 2 < g' ∧ ArgsB w wx vss ∧ Blk wx g xs ∧ Blk wx g' ys
theorem cutT_nn {w X : World} {a b c : List Value} {xs ys : List Value} {T T' : TypeId} (h : ArgsB w X [a, b, c]) (hl : w.heap.size + 2 < X.heap.size) : CutT w ((X.alloc (.cells xs.toArray T)).alloc (.cells ys.toArray T')) [a, b, c] xs ys (.pointer (some ⟨X.heap.size, 0, none⟩)) (.pointer (some ⟨X.heap.size + 1, 0, none⟩)) :=
 ⟨_, _, rfl, rfl, by omega, hl, by omega, (h.alloc _).alloc _, (Blk.new _ _ _ rfl).alloc _, Blk.new2 _ _ _ _⟩
theorem cutT_nn' {w X : World} {a b c : List Value} {xs ys : List Value} {T T' : TypeId} (h : ArgsB w X [a, b, c]) (hl : w.heap.size + 2 < X.heap.size) : CutT w ((X.alloc (.cells ys.toArray T)).alloc (.cells xs.toArray T')) [a, b, c] xs ys (.pointer (some ⟨X.heap.size + 1, 0, none⟩)) (.pointer (some ⟨X.heap.size, 0, none⟩)) :=
 ⟨_, _, rfl, rfl, by omega, by omega, hl, (h.alloc _).alloc _, Blk.new2 _ _ _ _, (Blk.new _ _ _ rfl).alloc _⟩
theorem cutT_sn {w X : World} {a b c : List Value} {v0 v1 v2 v3 z0 z1 z2 z3 : Value} {ys : List Value} {T : TypeId} {g : Nat} (h : ArgsB w X [a, b, c]) (G : Blk X g [z0, z1, z2, z3]) (hg : w.heap.size + 2 < g) (hl : w.heap.size + 2 < X.heap.size) : CutT w (((((X.setCell ⟨g, 0, none⟩ v0).setCell ⟨g, 1, none⟩ v1).setCell ⟨g, 2, none⟩ v2).setCell ⟨g, 3, none⟩ v3).alloc (.cells ys.toArray T)) [a, b, c] [v0, v1, v2, v3] ys (.pointer (some ⟨g, 0, none⟩)) (.pointer (some ⟨X.heap.size, 0, none⟩)) :=
 ⟨_, _, rfl, rfl, by have := G.lt; omega, hg, hl, (h.set4 hg _ _ _ _).alloc _, (G.stored4 _ _ _ _).alloc _, Blk.new _ _ _ (by simp)⟩
theorem cutT_sn' {w X : World} {a b c : List Value} {v0 v1 v2 v3 z0 z1 z2 z3 : Value} {xs : List Value} {T : TypeId} {g : Nat} (h : ArgsB w X [a, b, c]) (G : Blk X g [z0, z1, z2, z3]) (hg : w.heap.size + 2 < g) (hl : w.heap.size + 2 < X.heap.size) : CutT w (((((X.setCell ⟨g, 0, none⟩ v0).setCell ⟨g, 1, none⟩ v1).setCell ⟨g, 2, none⟩ v2).setCell ⟨g, 3, none⟩ v3).alloc (.cells xs.toArray T)) [a, b, c] xs [v0, v1, v2, v3] (.pointer (some ⟨X.heap.size, 0, none⟩)) (.pointer (some ⟨g, 0, none⟩)) :=
 ⟨_, _, rfl, rfl, by have := G.lt; omega, hl, hg, (h.set4 hg _ _ _ _).alloc _, Blk.new _ _ _ (by simp), (G.stored4 _ _ _ _).alloc _⟩
theorem cutT_ss {w X : World} {a b c : List Value} {v0 v1 v2 v3 u0 u1 u2 u3 z0 z1 z2 z3 y0 y1 y2 y3 : Value} {g g' : Nat} (h : ArgsB w X [a, b, c]) (G : Blk X g [z0, z1, z2, z3]) (G' : Blk X g' [y0, y1, y2, y3]) (hg : w.heap.size + 2 < g) (hg' : w.heap.size + 2 < g') (hne : g ≠ g') :
   CutT w ((((((((X.setCell ⟨g, 0, none⟩ v0).setCell ⟨g, 1, none⟩ v1).setCell ⟨g, 2, none⟩ v2).setCell ⟨g, 3, none⟩ v3).setCell ⟨g', 0, none⟩ u0).setCell ⟨g', 1, none⟩ u1).setCell ⟨g', 2, none⟩ u2).setCell ⟨g', 3, none⟩ u3) [a, b, c] [v0, v1, v2, v3] [u0, u1, u2, u3] (.pointer (some ⟨g, 0, none⟩)) (.pointer (some ⟨g', 0, none⟩)) :=
 ⟨_, _, rfl, rfl, hne, hg, hg', (h.set4 hg _ _ _ _).set4 hg' _ _ _ _, (G.stored4 _ _ _ _).set4 hne, (G'.set4 (fun e => hne e.symm)).stored4 _ _ _ _⟩
structure ApI (qs xs ys zs : List Int) (i : Nat) : Prop where
 len : zs.length = qs.length
 wds : Words zs
 eq : val64 zs = val64 qs + val64 (xs.take i) * val64 ys
structure ApJ (qs xs ys zs : List Int) (i k : Nat) (x o : Int) : Prop where
 len : zs.length = qs.length
 wds : Words zs
 eq : val64 zs + o * pw64 (i + k) = val64 qs + val64 (xs.take i) * val64 ys + x * (pw64 i * val64 (ys.take k))
structure ApC (qs xs ys zs : List Int) (i p : Nat) (o : Int) : Prop where
 len : zs.length = qs.length
 wds : Words zs
 eq : val64 zs + o * pw64 p = val64 qs + val64 (xs.take i) * val64 ys
theorem ap_start {qs : List Int} (xs ys : List Int) (hq : Words qs) : ApI qs xs ys qs 0 := ⟨rfl, hq, by simp [val64]⟩
theorem ap_in {qs xs ys zs : List Int} {i : Nat} (h : ApI qs xs ys zs i) (x : Int) : ApJ qs xs ys zs i 0 x 0 := ⟨h.len, h.wds, by simp [val64, h.eq]⟩
theorem ap_step {qs xs ys zs : List Int} {i k : Nat} {x o : Int} (h : ApJ qs xs ys zs i k x o) (hk : k < ys.length) (hj : i + k < zs.length) (T : Int) (hT : T = x * ys[k] + zs[i + k] + o) (hw : Word (T % 18446744073709551616)) :
   ApJ qs xs ys (zs.set (i + k) (T % 18446744073709551616)) i (k + 1) x (T / 18446744073709551616) := by
 refine ⟨by simpa using h.len, words_set h.wds _ hw, ?_⟩
 rw [val64_set zs _ hj, show i + (k + 1) = (i + k) + 1 by omega, pw64, val64_take ys k hk]
 have e := h.eq
 have e2 : T = T % 18446744073709551616 + 18446744073709551616 * (T / 18446744073709551616) := by omega
 have e3 := pw64_add i k
 generalize T / 18446744073709551616 = q at *
 generalize T % 18446744073709551616 = r at *
 generalize zs[i + k] = zk at *
 generalize ys[k] = yk at *
 generalize pw64 (i + k) = p at *
 subst e2
 grind
theorem ap_out {qs xs ys zs : List Int} {i : Nat} {o : Int} (hi : i < xs.length) (h : ApJ qs xs ys zs i ys.length xs[i] o) : ApC qs xs ys zs (i + 1) (i + ys.length) o := by
 refine ⟨h.len, h.wds, ?_⟩
 have e := h.eq
 rw [show ys.take ys.length = ys from List.take_of_length_le (by omega)] at e
 rw [e, val64_take xs i hi]
 grind
theorem apc_step {qs xs ys zs : List Int} {i p : Nat} {o : Int} (h : ApC qs xs ys zs i p o) (hp : p < zs.length) (ho : Word o) (u c : Int) (hu : u = (zs[p] + o) % 18446744073709551616) (hc : c = (zs[p] + o) / 18446744073709551616) :
   ApC qs xs ys (zs.set p u) i (p + 1) c ∧ Word u ∧ Word c := by
 have hz := words_at h.wds p hp
 have e1 : u + 18446744073709551616 * c = zs[p] + o := by omega
 have hw : Word u := by unfold Word; omega
 refine ⟨⟨by simpa using h.len, words_set h.wds _ hw, ?_⟩, hw, by unfold Word at *; omega⟩
 rw [val64_set zs _ hp, pw64, ← h.eq]
 generalize zs[p] = zp at *
 obtain rfl : zp = u + 18446744073709551616 * c - o := by omega
 grind
theorem val64_take_le {xs : List Int} (h : Words xs) (i : Nat) : val64 (xs.take i) ≤ val64 xs := by
 rcases Nat.lt_or_ge xs.length i with hi | hi
 rotate_left
 · rw [val64_part xs i hi]
   have h1 := val64_nonneg (words_drop h i)
   have h2 := pq_pos i
   have := Int.mul_nonneg (Int.le_of_lt h2) h1
   omega
 · rw [List.take_of_length_le (by omega)]; exact Int.le_refl _
theorem apc_room {qs xs ys zs : List Int} {i p : Nat} {o : Int} (h : ApC qs xs ys zs i p o) (hx : Words xs) (hy : Words ys) (hb : val64 qs + val64 xs * val64 ys < pw64 qs.length) (ho : Word o) (h0 : o ≠ 0) : p < zs.length := by
 rcases Nat.lt_or_ge p zs.length with hp | hp
 · exact hp
 exfalso
 have h1 := val64_take_le hx i
 have h2 := Int.mul_le_mul_of_nonneg_right h1 (val64_nonneg hy)
 have h3 := val64_nonneg h.wds
 have h4 := pw64_mono hp
 have h5 := pq_pos p
 have h6 : 1 * pw64 p ≤ o * pw64 p := Int.mul_le_mul_of_nonneg_right (by unfold Word at ho; omega) (Int.le_of_lt h5)
 have e := h.eq
 rw [h.len] at h4
 omega
theorem apc_done {qs xs ys zs : List Int} {i p : Nat} (h : ApC qs xs ys zs i p 0) : ApI qs xs ys zs i := ⟨h.len, h.wds, by have := h.eq; omega⟩
theorem ap_end {qs xs ys zs : List Int} (h : ApI qs xs ys zs xs.length) : val64 zs = val64 qs + val64 xs * val64 ys := by
 have := h.eq
 rwa [List.take_of_length_le (Nat.le_refl _)] at this
def AddPP (gp L : Nat) (qs xs ys : List Int) (w : World) (e : Ending) (w' : World) : Prop :=
 ∃ zs : List Int, e = .returned (.tuple #[]) ∧ zs.length = L ∧ Words zs ∧ val64 zs = val64 qs + val64 xs * val64 ys ∧ Blk w' gp (zs.map (Value.int .u64)) ∧ Wrote gp 0 L w w'
theorem mul64n (x y hi lo : Int) (hx : Word x) (hy : Word y) (h1 : x * y / 18446744073709551616 = hi) (h2 : x * y % 18446744073709551616 = lo) (w : World) : Calls Tryz.prog 99 #[.int .u64 x, .int .u64 y] w (fun e w' => e = .returned (.tuple #[.int .u64 hi, .int .u64 lo]) ∧ w' = w) := by
 refine (mul64 x y hx hy w).mono ?_
 rintro e w' ⟨rfl, rfl⟩
 rw [h1, h2]
 exact ⟨rfl, rfl⟩
theorem add64n (x y s c : Int) (hx : Word x) (hy : Word y) (h1 : (x + y) % 18446744073709551616 = s) (h2 : (x + y) / 18446744073709551616 = c) (w : World) : (callFunc 100 #[.int .u64 x, .int .u64 y, .int .u64 0]).run Tryz.prog w = .ok (.value (.tuple #[.int .u64 s, .int .u64 c])) w := by
 rw [add64 x y 0 hx hy (by decide) (by decide) w, Int.add_zero, h1, h2]
structure ApW (w wr : World) (gp L g g' : Nat) (xs ys zs : List Int) : Prop where
 wrote : Wrote gp 0 L w wr
 z : Blk wr gp (zs.map (Value.int .u64))
 x : ∀ i, (h : i < xs.length) → wr.cell? ⟨g, i, none⟩ = some (.int .u64 xs[i])
 y : ∀ i, (h : i < ys.length) → wr.cell? ⟨g', i, none⟩ = some (.int .u64 ys[i])
theorem ApW.set {w wr : World} {gp L g g' : Nat} {xs ys zs : List Int} (h : ApW w wr gp L g g' xs ys zs) (ng : g ≠ gp) (ng' : g' ≠ gp) (j : Nat) (hj : j < zs.length) (hl : j < L) (u : Int) : ApW w (wr.setCell ⟨gp, j, none⟩ (.int .u64 u)) gp L g g' xs ys (zs.set j u) := by
 refine ⟨h.wrote.set j ⟨by omega, by omega⟩ _, ?_, fun i hi => ?_, fun i hi => ?_⟩
 · have := h.z.setI j (by simpa using hj) (.int .u64 u)
   rwa [← List.map_set] at this
 · rw [World.cell?_setCell_other _ _ _ _ (by intro e; simp only [Addr.mk.injEq] at e; exact ng e.1.symm)]; exact h.x i hi
 · rw [World.cell?_setCell_other _ _ _ _ (by intro e; simp only [Addr.mk.injEq] at e; exact ng' e.1.symm)]; exact h.y i hi
theorem ApW.cz {w wr : World} {gp L g g' : Nat} {xs ys zs : List Int} (h : ApW w wr gp L g g' xs ys zs) (j : Nat) (hj : j < zs.length) : wr.cell? ⟨gp, j, none⟩ = some (.int .u64 zs[j]) ∧ wr.frozen? ⟨gp, j, none⟩ = false := ⟨h.z.c j (by simp [hj]), h.z.f j (v := .int .u64 zs[j]) (by simp [hj])⟩
theorem addProduct_any (gp g g' L cL m cm n cn : Nat) (qs xs ys : List Int) (hq : qs.length = L) (hm : xs.length = m) (hn : ys.length = n) (wq : Words qs) (wx : Words xs) (wy : Words ys) (hb : val64 qs + val64 xs * val64 ys < pw64 L) (hmn : m + n ≤ L) (hL : L ≤ 1000) (ng : g ≠ gp) (ng' : g' ≠ gp) (w : World) (BQ : Blk w gp (qs.map (Value.int .u64))) (RX : Row w g 0 xs) (RY : Row w g' 0 ys) :
   Calls Tryz.prog 61 #[.slice (some ⟨gp, 0, none⟩) L cL, .slice (some ⟨g, 0, none⟩) m cm, .slice (some ⟨g', 0, none⟩) n cn] w (AddPP gp L qs xs ys w) := by
 have HS : ApW w w gp L g g' xs ys qs := ⟨Wrote.refl _ _ _ _, BQ, fun i h => by have := RX.cell i h; rwa [Nat.zero_add] at this, fun i h => by have := RY.cell i h; rwa [Nat.zero_add] at this⟩
 have HI : ApI qs xs ys qs 0 := ap_start xs ys wq
 have HBD : Hid (val64 qs + val64 xs * val64 ys < pw64 qs.length) := by show _ < _; rw [hq]; exact hb
 have HX : Hid (Words xs) := wx
 have HY : Hid (Words ys) := wy
 have HQ : Hid (qs.length = L) := hq
 have HM : Hid (xs.length = m) := hm
 have HN : Hid (ys.length = n) := hn
 clear BQ RX RY wq wx wy hb hq hm hn
 go_enter Tryz.func61, Tryz.ntmps61
 go_wp2_with fail
 go_loopw [17] (fun i wr => ∃ (c : Nat) (zs : List Int), c ≤ m ∧ i = .int .i64 c ∧ ApI qs xs ys zs c ∧ ApW w wr gp L g g' xs ys zs) (fun i _ => m - (intOf i).toNat)
 case atStart => exact ⟨0, _, by omega, rfl, HI, HS⟩
 case round =>
   clear HI HS
   obtain ⟨c, zs, hc, rfl, hI, hT⟩ := hrel
   by_cases hc4 : c < m
   · have hcx : c < xs.length := by have := HM.out; omega
     have HJ := ap_in hI xs[c]
     have HWX := words_at HX.out c hcx
     have hcI : (c : Int) < m := by omega
     have q1 := hT.x c hcx
     clear hI
     go_wp2
     clear q1
     go_loopw [8, 24] (fun o k wr => ∃ (j : Nat) (ov : Int) (zs : List Int), j ≤ n ∧ k = .int .i64 j ∧ Word ov ∧ o = .int .u64 ov ∧ ApJ qs xs ys zs c j xs[c] ov ∧ ApW w wr gp L g g' xs ys zs) (fun _ k _ => n - (intOf k).toNat)
     case atStart => exact ⟨0, 0, _, by omega, rfl, ⟨by decide, by decide⟩, rfl, HJ, hT⟩
     case round =>
       clear HJ hT
       obtain ⟨j, ov, zs', hj, rfl, ho, rfl, hJ, hT⟩ := hrel
       have hlen := hJ.len.trans HQ.out
       by_cases hj4 : j < n
       · have hjy : j < ys.length := by have := HN.out; omega
         have hij : c + j < zs'.length := by omega
         have hijL : c + j < L := by omega
         have q2 := hT.y j hjy
         obtain ⟨q3, q4⟩ := hT.cz (c + j) hij
         have HWY := words_at HY.out j hjy
         have HWZ := words_at hJ.wds (c + j) hij
         obtain ⟨P0, P1⟩ := word_mul HWX HWY
         obtain ⟨hi, ehi⟩ : ∃ v, xs[c] * ys[j] / 18446744073709551616 = v := ⟨_, rfl⟩
         obtain ⟨lo, elo⟩ : ∃ v, xs[c] * ys[j] % 18446744073709551616 = v := ⟨_, rfl⟩
         obtain ⟨t1, t2, t3, t4, t5, t6, t7, t8⟩ := tm_arith P0 P1 HWZ ho
         rw [ehi] at t1 t4 t6
         rw [elo] at t2 t3 t4 t5 t6
         have M1 := mul64n xs[c] ys[j] hi lo HWX HWY ehi elo
         obtain ⟨l1, el1⟩ : ∃ v, (lo + zs'[c + j]) % 18446744073709551616 = v := ⟨_, rfl⟩
         obtain ⟨c1, ec1⟩ : ∃ v, (lo + zs'[c + j]) / 18446744073709551616 = v := ⟨_, rfl⟩
         have A1 := add64n lo zs'[c + j] l1 c1 t2 HWZ el1 ec1
         rw [el1] at t3 t5 t6
         rw [ec1] at t4 t6
         obtain ⟨n1, en1⟩ : ∃ v, (l1 + ov) % 18446744073709551616 = v := ⟨_, rfl⟩
         obtain ⟨c2, ec2⟩ : ∃ v, (l1 + ov) / 18446744073709551616 = v := ⟨_, rfl⟩
         have A2 := add64n l1 ov n1 c2 t3 ho en1 ec2
         rw [en1] at t5
         rw [ec2] at t6
         have R1 := ap_step hJ hjy hij (xs[c] * ys[j] + zs'[c + j] + ov) rfl t8
         have R2 := hT.set ng ng' (c + j) hij hijL n1
         rw [← t5, ← t6] at R1
         rw [← t6] at t7
         have d1 : 0 ≤ hi := t1.1
         have d2 : 0 ≤ c1 := by rw [← ec1]; have := t2.1; have := HWZ.1; omega
         have d3 : 0 ≤ c2 := by rw [← ec2]; have := t3.1; have := ho.1; omega
         obtain ⟨d4, d5⟩ : 0 ≤ hi + c1 + c2 ∧ hi + c1 + c2 < 18446744073709551616 := t7
         clear hJ hT hlen t1 t2 t3 t5 t6 t8 P0 P1 ehi elo el1 ec1 en1 ec2 HWY HWZ
         have hjI : (j : Int) < n := by omega
         have hcj : (c : Int) + j < L := by omega
         go_wp2_with fail
         refine (M1 _).mono ?_
         rintro e w1 ⟨rfl, rfl⟩
         clear M1
         go_wp2
         go_roundw
         case rel => exact ⟨j + 1, _, _, by omega, by go_num, ⟨d4, d5⟩, rfl, R1, R2⟩
         case measure => simp [intOf]; omega
       · obtain rfl : j = n := by omega
         have HC : ApC qs xs ys zs' (c + 1) (c + j) ov := by
           have := ap_out hcx (by rw [HN.out]; exact hJ)
           rwa [HN.out] at this
         clear hJ hlen
         go_wp2
         go_loopw [8, 14] (fun o a wr => ∃ (p : Nat) (ov : Int) (zs : List Int), p ≤ L ∧ a = .int .i64 p ∧ Word ov ∧ o = .int .u64 ov ∧ ApC qs xs ys zs (c + 1) p ov ∧ ApW w wr gp L g g' xs ys zs) (fun _ a _ => L - (intOf a).toNat)
         case atStart => exact ⟨c + j, ov, _, by omega, by go_num, ho, rfl, HC, hT⟩
         case round =>
           clear HC hT ho
           obtain ⟨p, ov, zs', hp, rfl, ho, rfl, hC, hT⟩ := hrel
           have hlen := hC.len.trans HQ.out
           by_cases h0 : ov = 0
           · subst h0
             have hI := apc_done hC
             clear hC
             go_wp2
             go_roundw
             case rel => exact ⟨c + 1, _, by omega, by go_num, hI, hT⟩
             case measure => simp [intOf]; omega
           · have hpz := apc_room hC HX.out HY.out HBD.out ho h0
             have hpL : p < L := by omega
             obtain ⟨q3, q4⟩ := hT.cz p hpz
             have HWZ := words_at hC.wds p hpz
             obtain ⟨u, eu⟩ : ∃ v, (zs'[p] + ov) % 18446744073709551616 = v := ⟨_, rfl⟩
             obtain ⟨c1, ec1⟩ : ∃ v, (zs'[p] + ov) / 18446744073709551616 = v := ⟨_, rfl⟩
             have A1 := add64n zs'[p] ov u c1 HWZ ho eu ec1
             obtain ⟨R1, hu, hc1⟩ := apc_step hC hpz ho u c1 eu.symm ec1.symm
             have R2 := hT.set ng ng' p hpz hpL u
             have hpI : (p : Int) < L := by omega
             have hov : (ov == 0) = false := by simpa using h0
             clear hC hT hlen eu ec1 HWZ
             go_wp2
             go_roundw
             case rel => exact ⟨p + 1, _, _, by omega, by go_num, hc1, rfl, R1, R2⟩
             case measure => simp [intOf]; omega
   · obtain rfl : c = m := by omega
     have hl := hI.len.trans HQ.out
     have hv : val64 zs = val64 qs + val64 xs * val64 ys := ap_end (by rw [HM.out]; exact hI)
     have wz := hI.wds
     have hz := hT.z
     have hw := hT.wrote
     clear hI hT
     go_wp2
     go_end0
     exact ⟨zs, rfl, hl, wz, hv, hz, hw⟩
end Go.Proofs.YtpnnpkchogooaaaGreat
