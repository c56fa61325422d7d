/- Part 6 of the walks that the proof leans on. -/
import Derived.Test.YtaagmdhbfbikfaaPart3
import Derived.Test.YtaagmdhbfbikfaaPart5
/- Rows of blocks copied and held against one another. -/
namespace Go.Proofs.Ytaagmdhbfbikfaa
open Go.RowKit
set_option maxRecDepth 100000 in
set_option maxHeartbeats 2000000 in
theorem toBlock_any (x y z : Int) (t : Bool) (ao : Option Addr) (m cap : Nat) (e : Nat → Int) (hm : m ≤ 1048576) (w : World) (hS : NoIn w ao m e) : Calls Try.prog 45 #[.agg #[.int .i64 x, .int .i64 y, .int .i64 z, .bool t, .slice ao m cap]] w (fun r w' => ∃ g, r = .returned (.agg #[.int .i64 x, .int .i64 y, .int .i64 z, .bool t, .slice (some ⟨g, 0, none⟩) m m]) ∧ w.heap.size < g ∧ w'.rowIs g 2 m (fun i => .int .i64 (e i)) ∧ Below w.heap.size w w') := by
  have B0 : Blk ((w.alloc (.cells #[.int .i64 x, .int .i64 y, .int .i64 z, .bool t, .slice ao m cap] 83)).alloc (.cells #[.int .i64 0, .int .i64 0, .int .i64 0, .bool false, .slice none 0 0] 95)) w.heap.size [.int .i64 x, .int .i64 y, .int .i64 z, .bool t, .slice ao m cap] := (Blk.new w [.int .i64 x, .int .i64 y, .int .i64 z, .bool t, .slice ao m cap] 83 rfl).alloc _
  have B1 : Blk ((w.alloc (.cells #[.int .i64 x, .int .i64 y, .int .i64 z, .bool t, .slice ao m cap] 83)).alloc (.cells #[.int .i64 0, .int .i64 0, .int .i64 0, .bool false, .slice none 0 0] 95)) (w.heap.size + 1) [.int .i64 0, .int .i64 0, .int .i64 0, .bool false, .slice none 0 0] := Blk.new (w.alloc (.cells #[.int .i64 x, .int .i64 y, .int .i64 z, .bool t, .slice ao m cap] 83)) [.int .i64 0, .int .i64 0, .int .i64 0, .bool false, .slice none 0 0] 95 (by simp)
  have HB : Below w.heap.size w ((w.alloc (.cells #[.int .i64 x, .int .i64 y, .int .i64 z, .bool t, .slice ao m cap] 83)).alloc (.cells #[.int .i64 0, .int .i64 0, .int .i64 0, .bool false, .slice none 0 0] 95)) := ((Below.refl _ w).alloc (Nat.le_refl _) _).alloc (by simp) _
  have HS : Hid (NoIn ((w.alloc (.cells #[.int .i64 x, .int .i64 y, .int .i64 z, .bool t, .slice ao m cap] 83)).alloc (.cells #[.int .i64 0, .int .i64 0, .int .i64 0, .bool false, .slice none 0 0] 95)) ao m e) := hS.step HB
  have TN := fun w h => toNoS_any ao m cap e hm w h
  clear hS
  go_enter Try.func45, Try.ntmps45
  go_upto_region 1 with fail
  have hs : ((w.alloc (.cells #[.int .i64 x, .int .i64 y, .int .i64 z, .bool t, .slice ao m cap] 83)).alloc (.cells #[.int .i64 0, .int .i64 0, .int .i64 0, .bool false, .slice none 0 0] 95)).heap.size = w.heap.size + 2 := by simp
  generalize ((w.alloc (.cells #[.int .i64 x, .int .i64 y, .int .i64 z, .bool t, .slice ao m cap] 83)).alloc (.cells #[.int .i64 0, .int .i64 0, .int .i64 0, .bool false, .slice none 0 0] 95)) = W1 at *
  have e0 := (B0.alloc (.cells #[.int .i64 0, .int .i64 0, .int .i64 0, .bool false, .slice none 0 0] 95)).c 0 rfl; have e1 := (B0.alloc (.cells #[.int .i64 x, .int .i64 0, .int .i64 0, .bool false, .slice none 0 0] 95)).c 1 rfl; have e2 := (B0.alloc (.cells #[.int .i64 x, .int .i64 y, .int .i64 0, .bool false, .slice none 0 0] 95)).c 2 rfl; have e3 := (B0.alloc (.cells #[.int .i64 x, .int .i64 y, .int .i64 z, .bool false, .slice none 0 0] 95)).c 3 rfl
  replace B0 := B0.alloc (.cells #[.int .i64 x, .int .i64 y, .int .i64 z, .bool t, .slice none 0 0] 95)
  replace B1 := B1.alloc (.cells #[.int .i64 x, .int .i64 y, .int .i64 z, .bool t, .slice none 0 0] 95)
  have B2 := Blk.new W1 [.int .i64 x, .int .i64 y, .int .i64 z, .bool t, .slice none 0 0] 95 (g := w.heap.size + 2) hs.symm
  replace HS : Hid (NoIn (W1.alloc (.cells #[.int .i64 x, .int .i64 y, .int .i64 z, .bool t, .slice none 0 0] 95)) ao m e) := HS.out.step ((Below.refl _ _).alloc (Nat.le_refl _) _)
  replace HB := HB.alloc HB.size (.cells #[.int .i64 x, .int .i64 y, .int .i64 z, .bool t, .slice none 0 0] 95)
  go_upto_region 6 with fail
  clear e0 e1 e2 e3
  generalize (W1.alloc (.cells #[.int .i64 x, .int .i64 y, .int .i64 z, .bool t, .slice none 0 0] 95)) = W2 at *
  clear hs
  have hl2 := B2.lt
  have e4 := B0.c 4 rfl
  go_wp2_with fail
  refine (TN _ HS.out).mono ?_
  rintro r w1 ⟨g, rfl, hg, R, hB⟩
  replace B1 := B1.step hB; replace B2 := B2.step hB
  replace HB := HB.trans (hB.mono HB.size)
  clear hB TN e4 B0 HS
  have BN := B2.setI 4 (by simp) (.slice (some ⟨g, 0, none⟩) m m)
  have BM := B1.setO (p := ⟨w.heap.size + 2, 4, none⟩) (by show w.heap.size + 1 ≠ w.heap.size + 2; omega) (.slice (some ⟨g, 0, none⟩) m m)
  have HN := HB.setCell (p := ⟨w.heap.size + 2, 4, none⟩) (by show w.heap.size ≤ w.heap.size + 2; omega) (.slice (some ⟨g, 0, none⟩) m m)
  have RN : (w1.setCell ⟨w.heap.size + 2, 4, none⟩ (.slice (some ⟨g, 0, none⟩) m m)).rowIs g 2 m (fun i => .int .i64 (e i)) := R.setOther (by show g ≠ w.heap.size + 2; omega) _
  have d4 := B2.c 4 rfl; have f4 := B2.f 4 rfl
  clear B1 B2 HB R
  go_upto_region 7 with fail
  clear d4 f4
  simp only [List.set_cons_zero, List.set_cons_succ] at BN
  generalize (w1.setCell ⟨w.heap.size + 2, 4, none⟩ (.slice (some ⟨g, 0, none⟩) m m)) = W3 at *
  have e0 := BN.c 0 rfl; have e1 := BN.c 1 rfl; have e2 := BN.c 2 rfl; have e3 := BN.c 3 rfl; have e4 := BN.c 4 rfl
  have g0 := BM.c 0 rfl; have g1 := BM.c 1 rfl; have g2 := BM.c 2 rfl; have g3 := BM.c 3 rfl; have g4 := BM.c 4 rfl; have h0 := BM.f 0 rfl; have h1 := BM.f 1 rfl; have h2 := BM.f 2 rfl; have h3 := BM.f 3 rfl; have h4 := BM.f 4 rfl
  have BF : Hid (Blk (((((W3.setCell ⟨(w.heap.size + 1), 0, none⟩ (.int .i64 x)).setCell ⟨(w.heap.size + 1), 1, none⟩ (.int .i64 y)).setCell ⟨(w.heap.size + 1), 2, none⟩ (.int .i64 z)).setCell ⟨(w.heap.size + 1), 3, none⟩ (.bool t)).setCell ⟨(w.heap.size + 1), 4, none⟩ (.slice (some ⟨g, 0, none⟩) m m)) (w.heap.size + 1) [.int .i64 x, .int .i64 y, .int .i64 z, .bool t, .slice (some ⟨g, 0, none⟩) m m]) := ((((BM.setI 0 (by decide) _).setI 1 (by simp) _).setI 2 (by simp) _).setI 3 (by simp) _).setI 4 (by simp) _
  have RF : Hid ((((((W3.setCell ⟨(w.heap.size + 1), 0, none⟩ (.int .i64 x)).setCell ⟨(w.heap.size + 1), 1, none⟩ (.int .i64 y)).setCell ⟨(w.heap.size + 1), 2, none⟩ (.int .i64 z)).setCell ⟨(w.heap.size + 1), 3, none⟩ (.bool t)).setCell ⟨(w.heap.size + 1), 4, none⟩ (.slice (some ⟨g, 0, none⟩) m m)).rowIs g 2 m (fun i => .int .i64 (e i))) := by
    have hne : g ≠ w.heap.size + 1 := by omega
    exact ((((RN.setOther hne _).setOther hne _).setOther hne _).setOther hne _).setOther hne _
  clear BM BN RN
  go_wp2
  have r0 := BF.out.c 0 rfl; have r1 := BF.out.c 1 rfl; have r2 := BF.out.c 2 rfl; have r3 := BF.out.c 3 rfl; have r4 := BF.out.c 4 rfl
  refine bodyPost_ret (v := .agg #[.int .i64 x, .int .i64 y, .int .i64 z, .bool t, .slice (some ⟨g, 0, none⟩) m m]) (by simp [results, Try.results45, go_sem, r0, r1, r2, r3, r4]) rfl ?_
  exact ⟨g, rfl, by omega, RF.out, ((((HN.setCell (Nat.le_succ _) _).setCell (Nat.le_succ _) _).setCell (Nat.le_succ _) _).setCell (Nat.le_succ _) _).setCell (Nat.le_succ _) _⟩
/-- The cells of a row of blocks. -/
def blV (Q : QD) (S : Nat → Nat) (k : Nat) : Value := match k % 5 with
  | 0 => .int .i64 (Q.X (k / 5))
  | 1 => .int .i64 (Q.Y (k / 5))
  | 2 => .int .i64 (Q.Z (k / 5))
  | 3 => .bool (Q.T (k / 5))
  | _ => .slice (some ⟨S (k / 5), 0, none⟩) (Q.L (k / 5)) (Q.L (k / 5))
def blZ (k : Nat) : Value := match k % 5 with
  | 3 => .bool false
  | 4 => .slice none 0 0
  | _ => .int .i64 0
theorem blV0 (Q : QD) (S : Nat → Nat) (c : Nat) : blV Q S (c * 5) = .int .i64 (Q.X c) := by unfold blV; rw [show (c * 5) % 5 = 0 by omega, show (c * 5) / 5 = c by omega]; rfl
theorem blV1 (Q : QD) (S : Nat → Nat) (c : Nat) : blV Q S (c * 5 + 1) = .int .i64 (Q.Y c) := by unfold blV; rw [show (c * 5 + 1) % 5 = 1 by omega, show (c * 5 + 1) / 5 = c by omega]; rfl
theorem blV2 (Q : QD) (S : Nat → Nat) (c : Nat) : blV Q S (c * 5 + 2) = .int .i64 (Q.Z c) := by unfold blV; rw [show (c * 5 + 2) % 5 = 2 by omega, show (c * 5 + 2) / 5 = c by omega]; rfl
theorem blV3 (Q : QD) (S : Nat → Nat) (c : Nat) : blV Q S (c * 5 + 3) = .bool (Q.T c) := by unfold blV; rw [show (c * 5 + 3) % 5 = 3 by omega, show (c * 5 + 3) / 5 = c by omega]; rfl
theorem blV4 (Q : QD) (S : Nat → Nat) (c : Nat) : blV Q S (c * 5 + 4) = .slice (some ⟨S c, 0, none⟩) (Q.L c) (Q.L c) := by unfold blV; rw [show (c * 5 + 4) % 5 = 4 by omega, show (c * 5 + 4) / 5 = c by omega]; rfl
theorem Try.infoBlk : (Try.prog.info? 95).map (fun i => (i.zero, i.size, i.bytes)) = some (some (.agg #[.int .i64 0, .int .i64 0, .int .i64 0, .bool false, .slice none 0 0]), 5, 56) := by kernel_rfl
theorem make_blocks (n : Nat) (hn : n ≤ 1048576) (w : World) : (Instr.makeSlice 29 (.int .i64 (n : Int)) (.int .i64 (n : Int))).run Try.prog w = .ok (.slice (some ⟨w.heap.size, 0, none⟩) n n) (w.alloc (.cells (madeCells #[.int .i64 0, .int .i64 0, .int .i64 0, .bool false, .slice none 0 0] (n * 5)) 95)) := by
  obtain ⟨i, hi, hzz⟩ := Option.map_eq_some_iff.1 Try.infoBlk
  simp only [Prod.mk.injEq] at hzz
  obtain ⟨hz, hs, hb⟩ := hzz
  have hr := run_make (P := Try.prog) w 29 95 i (.agg #[.int .i64 0, .int .i64 0, .int .i64 0, .bool false, .slice none 0 0]) Try.underlying29 hi hz .i64 .i64 n n (by omega) (Int.le_refl _) (by rw [hb]; omega) (by omega)
  simp only [Int.toNat_natCast, hs, Value.cells] at hr
  exact hr
theorem row_blocks (w : World) (n : Nat) (T : TypeId) : (w.alloc (.cells (madeCells #[.int .i64 0, .int .i64 0, .int .i64 0, .bool false, .slice none 0 0] (n * 5)) T)).rowIs w.heap.size T (n * 5) blZ := by
  have h := World.rowIs_alloc w (madeCells #[.int .i64 0, .int .i64 0, .int .i64 0, .bool false, .slice none 0 0] (n * 5)) T blZ (fun i hi => by
    rw [size_madeCells] at hi
    unfold blZ
    simp [madeCells, hi]
    rcases (show i % 5 = 0 ∨ i % 5 = 1 ∨ i % 5 = 2 ∨ i % 5 = 3 ∨ i % 5 = 4 by omega) with h | h | h | h | h <;> simp [h])
  rwa [size_madeCells] at h
/-- So far the row holds what was copied, behind it zeros. -/
def cpBl (Q : QD) (S : Nat → Nat) (c : Nat) (i : Nat) : Value := if i < c * 5 then blV Q S i else blZ i
theorem blV_same {Q : QD} {S S' : Nat → Nat} {c i : Nat} (h : ∀ j, j < c → S' j = S j) (hi : i < c * 5) : blV Q S' i = blV Q S i := by
  unfold blV
  rw [h (i / 5) (by omega)]
theorem cpBl_step {w : World} {g n c b : Nat} {T : TypeId} {Q : QD} {S : Nat → Nat} (h : w.rowIs g T (n * 5) (cpBl Q S c)) :
    (((((w.setCell ⟨g, c * 5, none⟩ (.int .i64 (Q.X c))).setCell ⟨g, c * 5 + 1, none⟩ (.int .i64 (Q.Y c))).setCell ⟨g, c * 5 + 2, none⟩ (.int .i64 (Q.Z c))).setCell ⟨g, c * 5 + 3, none⟩ (.bool (Q.T c))).setCell ⟨g, c * 5 + 4, none⟩ (.slice (some ⟨b, 0, none⟩) (Q.L c) (Q.L c))).rowIs g T (n * 5) (cpBl Q (fun j => if j = c then b else S j) (c + 1)) := by
  refine (((((h.set (c * 5) _).set (c * 5 + 1) _).set (c * 5 + 2) _).set (c * 5 + 3) _).set (c * 5 + 4) _).congr (fun i hi => ?_)
  unfold cpBl
  by_cases h4 : i = c * 5 + 4
  · subst h4; rw [if_pos rfl, if_pos (by omega), blV4]; simp
  by_cases h3 : i = c * 5 + 3
  · subst h3; rw [if_neg (by omega), if_pos rfl, if_pos (by omega), blV3]
  by_cases h2 : i = c * 5 + 2
  · subst h2; rw [if_neg (by omega), if_neg (by omega), if_pos rfl, if_pos (by omega), blV2]
  by_cases h1 : i = c * 5 + 1
  · subst h1; rw [if_neg (by omega), if_neg (by omega), if_neg (by omega), if_pos rfl, if_pos (by omega), blV1]
  by_cases h0 : i = c * 5
  · subst h0; rw [if_neg (by omega), if_neg (by omega), if_neg (by omega), if_neg (by omega), if_pos rfl, if_pos (by omega), blV0]
  rw [if_neg h4, if_neg h3, if_neg h2, if_neg h1, if_neg h0]
  by_cases hl : i < c * 5
  · rw [if_pos hl, if_pos (by omega)]
    exact (blV_same (fun j hj => if_neg (by omega)) hl).symm
  · rw [if_neg hl, if_neg (by omega)]
/-- Blocks that were copied: their row, their numbers. -/
structure BlRow (Q : QD) (w : World) (b g : Nat) (S : Nat → Nat) : Prop where
  row : w.rowIs g 95 (Q.N * 5) (blV Q S)
  lt : b ≤ g
  ids : ∀ j, j < Q.N → b ≤ S j ∧ S j ≠ g ∧ w.rowIs (S j) 2 (Q.L j) (fun i => .int .i64 (Q.E j i))
theorem BlRow.in {Q : QD} {w : World} {b g : Nat} {S : Nat → Nat} (h : BlRow Q w b g S) : BlIn Q w g 0 (fun i => (some ⟨S i, 0, none⟩, Q.L i)) := fun i hi => by
  refine ⟨h.row.lt, ?_, ?_, ?_, ?_, ?_, noIn_row (h.ids i hi).2.2⟩
  · rw [Nat.zero_add, h.row.cell (by omega), blV0]
  · rw [Nat.zero_add, h.row.cell (by omega), blV1]
  · rw [Nat.zero_add, h.row.cell (by omega), blV2]
  · rw [Nat.zero_add, h.row.cell (by omega), blV3]
  · rw [Nat.zero_add, h.row.cell (by omega), blV4]
theorem BlRow.step {Q : QD} {w w' : World} {b g : Nat} {S : Nat → Nat} (h : BlRow Q w b g S) (hB : Below w.heap.size w w') : BlRow Q w' b g S :=
  ⟨rowI_step h.row hB, h.lt, fun j hj => ⟨(h.ids j hj).1, (h.ids j hj).2.1, rowI_step (h.ids j hj).2.2 hB⟩⟩
set_option maxRecDepth 100000 in
set_option maxHeartbeats 4000000 in
theorem toBlockS_any (Q : QD) (bo : Option Addr) (cap A off : Nat) (so : Nat → Option Addr × Nat) (hN : Q.N ≤ 1048576) (hL : ∀ i, i < Q.N → Q.L i ≤ 1048576) (hbo : 0 < Q.N → bo = some ⟨A, off, none⟩) (w : World) (hBl : BlIn Q w A off so) : Calls Try.prog 24 #[.slice bo Q.N cap] w (fun r w' => ∃ g S, r = .returned (.slice (some ⟨g, 0, none⟩) Q.N Q.N) ∧ BlRow Q w' w.heap.size g S ∧ Below w.heap.size w w') := by
  obtain ⟨n, hn⟩ : ∃ n, Q.N = n := ⟨_, rfl⟩
  have HN : Hid (Q.N = n) := hn
  have HL : Hid (∀ i, i < n → Q.L i ≤ 1048576) := by rw [← hn]; exact hL
  have HBO : Hid (0 < n → bo = some ⟨A, off, none⟩) := by rw [← hn]; exact hbo
  have HBL : Hid (BlIn Q w A off so) := hBl
  have MK := make_blocks n (by omega)
  have hnI : (n : Int) ≤ 1048576 := by omega
  rw [hn]
  clear hn hL hbo hBl hN
  go_enter Try.func24, Try.ntmps24
  go_wp2_with fail
  have R0 := row_blocks w n 95
  have B0 : Below w.heap.size w (w.alloc (.cells (madeCells #[.int .i64 0, .int .i64 0, .int .i64 0, .bool false, .slice none 0 0] (n * 5)) 95)) := (Below.refl _ _).alloc (Nat.le_refl _) _
  generalize w.alloc (.cells (madeCells #[.int .i64 0, .int .i64 0, .int .i64 0, .bool false, .slice none 0 0] (n * 5)) 95) = W1 at *
  clear MK
  go_loopw [4] (fun i wr => ∃ (c : Nat) (S : Nat → Nat), c ≤ n ∧ i = .int .i64 c ∧ wr.rowIs w.heap.size 95 (n * 5) (cpBl Q S c) ∧ (∀ j, j < c → w.heap.size ≤ S j ∧ S j ≠ w.heap.size ∧ wr.rowIs (S j) 2 (Q.L j) (fun i => .int .i64 (Q.E j i))) ∧ Below w.heap.size w wr) (fun i _ => n - (intOf i).toNat)
  case atStart => exact ⟨0, fun _ => 0, by omega, rfl, R0.congr (fun i _ => by unfold cpBl; simp), fun j hj => absurd hj (by omega), B0⟩
  case round =>
    clear R0 B0
    obtain ⟨c, S, hc, rfl, R, hp, HB⟩ := hrel
    have HP : Hid (∀ j, j < c → w.heap.size ≤ S j ∧ S j ≠ w.heap.size ∧ wr.rowIs (S j) 2 (Q.L j) (fun i => .int .i64 (Q.E j i))) := hp
    clear hp
    by_cases hcn : c < n
    · obtain rfl := HBO.out (by omega)
      obtain ⟨hA, c0, c1, c2, c3, c4, hNo⟩ := HBL.out.below HB c (by rw [HN.out]; exact hcn)
      have hcI : (c : Int) < n := by omega
      have TL := fun w h => toBlock_any (Q.X c) (Q.Y c) (Q.Z c) (Q.T c) (so c).1 (Q.L c) (so c).2 (Q.E c) (HL.out c hcn) w h
      have hlr := R.lt
      go_wp2_with fail
      refine (TL _ hNo).mono ?_
      rintro e w1 ⟨g, rfl, hg, RG, hB⟩
      replace R := rowI_step R hB
      have HP2 : Hid (∀ j, j < c → w.heap.size ≤ S j ∧ S j ≠ w.heap.size ∧ w1.rowIs (S j) 2 (Q.L j) (fun i => .int .i64 (Q.E j i))) := fun j hj => ⟨(HP.out j hj).1, (HP.out j hj).2.1, rowI_step (HP.out j hj).2.2 hB⟩
      replace HB := HB.trans (hB.mono HB.size)
      have p0 := R.cell (i := c * 5) (by omega); have p1 := R.cell (i := c * 5 + 1) (by omega); have p2 := R.cell (i := c * 5 + 2) (by omega); have p3 := R.cell (i := c * 5 + 3) (by omega); have p4 := R.cell (i := c * 5 + 4) (by omega)
      have f0 := R.frozen (c * 5); have f1 := R.frozen (c * 5 + 1); have f2 := R.frozen (c * 5 + 2); have f3 := R.frozen (c * 5 + 3); have f4 := R.frozen (c * 5 + 4)
      have RN := cpBl_step (b := g) R
      have HPN : Hid (∀ j, j < c + 1 → w.heap.size ≤ (if j = c then g else S j) ∧ (if j = c then g else S j) ≠ w.heap.size ∧ (((((w1.setCell ⟨w.heap.size, c * 5, none⟩ (.int .i64 (Q.X c))).setCell ⟨w.heap.size, c * 5 + 1, none⟩ (.int .i64 (Q.Y c))).setCell ⟨w.heap.size, c * 5 + 2, none⟩ (.int .i64 (Q.Z c))).setCell ⟨w.heap.size, c * 5 + 3, none⟩ (.bool (Q.T c))).setCell ⟨w.heap.size, c * 5 + 4, none⟩ (.slice (some ⟨g, 0, none⟩) (Q.L c) (Q.L c))).rowIs (if j = c then g else S j) 2 (Q.L j) (fun i => .int .i64 (Q.E j i))) := fun j hj => by
        by_cases h : j = c
        · subst h
          rw [if_pos rfl]
          have hne : g ≠ w.heap.size := by omega
          exact ⟨by omega, hne, ((((RG.setOther hne _).setOther hne _).setOther hne _).setOther hne _).setOther hne _⟩
        · rw [if_neg h]
          have h3 := HP2.out j (by omega)
          have hne : S j ≠ w.heap.size := h3.2.1
          exact ⟨h3.1, hne, ((((h3.2.2.setOther hne _).setOther hne _).setOther hne _).setOther hne _).setOther hne _⟩
      have HN2 : Below w.heap.size w (((((w1.setCell ⟨w.heap.size, c * 5, none⟩ (.int .i64 (Q.X c))).setCell ⟨w.heap.size, c * 5 + 1, none⟩ (.int .i64 (Q.Y c))).setCell ⟨w.heap.size, c * 5 + 2, none⟩ (.int .i64 (Q.Z c))).setCell ⟨w.heap.size, c * 5 + 3, none⟩ (.bool (Q.T c))).setCell ⟨w.heap.size, c * 5 + 4, none⟩ (.slice (some ⟨g, 0, none⟩) (Q.L c) (Q.L c))) := ((((HB.setCell (by simp) _).setCell (by simp) _).setCell (by simp) _).setCell (by simp) _).setCell (by simp) _
      clear hB c0 c1 c2 c3 c4 hA R HB TL hlr hg HP HP2 RG hNo
      go_wp2
      go_roundw
      case rel => exact ⟨c + 1, _, by omega, by go_num, RN, HPN.out, HN2⟩
      case measure => simp [intOf]; omega
    · obtain rfl : c = n := by omega
      have RN : Hid (BlRow Q wr w.heap.size w.heap.size S) := ⟨(by rw [HN.out]; exact R.congr (fun i hi => by unfold cpBl; rw [if_pos hi])), Nat.le_refl _, fun j hj => HP.out j (by rw [← HN.out]; exact hj)⟩
      clear R HP HBL HBO HL
      go_wp2
      go_ret
      exact ⟨_, S, rfl, RN.out, HB⟩
end Go.Proofs.Ytaagmdhbfbikfaa

/- Blocks held against one another; trees copied and held against one another. -/
namespace Go.Proofs.Ytaagmdhbfbikfaa
open Go.RowKit
set_option maxRecDepth 100000 in
set_option maxHeartbeats 2000000 in
theorem eqBlock_same (x y z : Int) (t : Bool) (ao co : Option Addr) (m mc md : Nat) (e : Nat → Int) (hm : m ≤ 1048576) (w : World) (hA : NoIn w ao m e) (hC : NoIn w co m e) : Calls Try.prog 52 #[.agg #[.int .i64 x, .int .i64 y, .int .i64 z, .bool t, .slice ao m mc], .agg #[.int .i64 x, .int .i64 y, .int .i64 z, .bool t, .slice co m md]] w (VP (.bool true) w) := by
  have B0 := (Blk.new w [.int .i64 x, .int .i64 y, .int .i64 z, .bool t, .slice ao m mc] 95 rfl).alloc (.cells #[.int .i64 x, .int .i64 y, .int .i64 z, .bool t, .slice co m md] 95)
  have B1 := Blk.new (w.alloc (.cells #[.int .i64 x, .int .i64 y, .int .i64 z, .bool t, .slice ao m mc] 95)) [.int .i64 x, .int .i64 y, .int .i64 z, .bool t, .slice co m md] 95 (g := w.heap.size + 1) (by simp)
  have HB := ((Below.refl _ w).alloc (Nat.le_refl _) (.cells #[.int .i64 x, .int .i64 y, .int .i64 z, .bool t, .slice ao m mc] 95)).alloc (by simp) (.cells #[.int .i64 x, .int .i64 y, .int .i64 z, .bool t, .slice co m md] 95)
  have HA := hA.step HB
  have HC := hC.step HB
  have EP := fun w h h' => eqNoS_any ao co m mc md e hm w h h'
  clear hA hC
  go_enter Try.func52, Try.ntmps52
  go_upto_region 1 with fail
  generalize ((w.alloc (.cells #[.int .i64 x, .int .i64 y, .int .i64 z, .bool t, .slice ao m mc] 95)).alloc (.cells #[.int .i64 x, .int .i64 y, .int .i64 z, .bool t, .slice co m md] 95)) = W1 at *
  have p0 := B0.c 0 rfl; have p1 := B0.c 1 rfl; have p2 := B0.c 2 rfl; have p3 := B0.c 3 rfl; have p4 := B0.c 4 rfl
  have q0 := B1.c 0 rfl; have q1 := B1.c 1 rfl; have q2 := B1.c 2 rfl; have q3 := B1.c 3 rfl; have q4 := B1.c 4 rfl
  clear B0 B1
  go_wp2_with fail
  refine (EP _ HA HC).mono ?_
  rintro r w1 ⟨rfl, hB⟩
  have HB2 := HB.trans (hB.mono HB.size)
  clear hB HB p0 p1 p2 p3 p4 q0 q1 q2 q3 q4 EP HA HC
  go_wp2
  go_ret
  exact ⟨rfl, HB2⟩
def VqeJ (A off D od n ca cb c m mc md : Nat) (ao co : Option Addr) (x y z : Int) (t : Bool) (_B : Nat) : Nat → Value → World → Prop
  | 0, v, _ => v = .slice (some ⟨A, off, none⟩) n ca
  | 1, v, _ => v = .int .i64 (c : Int)
  | 2, v, _ => v = .pointer (some ⟨A, off + c * 5, none⟩)
  | 3, v, _ => v = .agg #[.int .i64 x, .int .i64 y, .int .i64 z, .bool t, .slice ao m mc]
  | 4, v, _ => v = .slice (some ⟨D, od, none⟩) n cb
  | 5, v, _ => v = .int .i64 (c : Int)
  | 6, v, _ => v = .pointer (some ⟨D, od + c * 5, none⟩)
  | 7, v, _ => v = .agg #[.int .i64 x, .int .i64 y, .int .i64 z, .bool t, .slice co m md]
  | 8, v, _ => v = .bool true
  | 9, v, _ => v = .bool false
  | _, _, _ => True
theorem VqeJ.mono {A off D od n ca cb c m mc md : Nat} {ao co : Option Addr} {x y z : Int} {t : Bool} {B j : Nat} {v : Value} {W W2 : World} (_hB : Below W.heap.size W W2) (h : VqeJ A off D od n ca cb c m mc md ao co x y z t B j v W) : VqeJ A off D od n ca cb c m mc md ao co x y z t B j v W2 := by
  unfold VqeJ at *
  split <;> simp only at h <;> first | exact h | trivial
set_option maxRecDepth 100000 in
set_option maxHeartbeats 4000000 in
theorem qeJ {Q : Exit → Act → World → Prop} {A off D od n ca cb c m mc md : Nat} {ao co : Option Addr} {x y z : Int} {t : Bool} {e : Nat → Int} {w0 : World} {a0 : Act} {idq : Nat} {t0 t1 t2 t3 t4 t5 t6 t7 t8 t9 : TypeId} {q0 q1 q2 q3 q4 q5 q6 q7 q8 q9 : String}
    (hcn : c < n) (hn : n ≤ 1048576) (hm : m ≤ 1048576) (hNA : NoIn w0 ao m e) (hNB : NoIn w0 co m e) (h0 : a0.tmps[0]? = some (.slice (some ⟨A, off, none⟩) n ca)) (h1 : a0.tmps[1]? = some (.slice (some ⟨D, od, none⟩) n cb)) (h5 : a0.tmps[5]? = some (.int .i64 (c : Int))) (k0 : w0.cell? ⟨A, off + c * 5, none⟩ = some (.int .i64 x)) (l0 : (⟨A, off + c * 5, none⟩ : Addr).block < w0.heap.size) (k1 : w0.cell? ⟨A, off + c * 5 + 1, none⟩ = some (.int .i64 y)) (l1 : (⟨A, off + c * 5 + 1, none⟩ : Addr).block < w0.heap.size) (k2 : w0.cell? ⟨A, off + c * 5 + 2, none⟩ = some (.int .i64 z)) (l2 : (⟨A, off + c * 5 + 2, none⟩ : Addr).block < w0.heap.size) (k3 : w0.cell? ⟨A, off + c * 5 + 3, none⟩ = some (.bool t)) (l3 : (⟨A, off + c * 5 + 3, none⟩ : Addr).block < w0.heap.size) (k4 : w0.cell? ⟨A, off + c * 5 + 4, none⟩ = some (.slice ao m mc)) (l4 : (⟨A, off + c * 5 + 4, none⟩ : Addr).block < w0.heap.size) (k5 : w0.cell? ⟨D, od + c * 5, none⟩ = some (.int .i64 x)) (l5 : (⟨D, od + c * 5, none⟩ : Addr).block < w0.heap.size) (k6 : w0.cell? ⟨D, od + c * 5 + 1, none⟩ = some (.int .i64 y)) (l6 : (⟨D, od + c * 5 + 1, none⟩ : Addr).block < w0.heap.size) (k7 : w0.cell? ⟨D, od + c * 5 + 2, none⟩ = some (.int .i64 z)) (l7 : (⟨D, od + c * 5 + 2, none⟩ : Addr).block < w0.heap.size) (k8 : w0.cell? ⟨D, od + c * 5 + 3, none⟩ = some (.bool t)) (l8 : (⟨D, od + c * 5 + 3, none⟩ : Addr).block < w0.heap.size) (k9 : w0.cell? ⟨D, od + c * 5 + 4, none⟩ = some (.slice co m md)) (l9 : (⟨D, od + c * 5 + 4, none⟩ : Addr).block < w0.heap.size) (hz : a0.tmps.size = 27)
    (hQ : ∀ aq W, aq.tmps.size = a0.tmps.size → aq.defers = a0.defers → (∀ e, e ∉ ([17, 18, 19, 20, 21, 22, 23, 24, 25, 26] : List Nat) → aq.tmps[e]? = a0.tmps[e]?) → VqeJ A off D od n ca cb c m mc md ao co x y z t w0.heap.size 9 (aq.tmps.getD 26 undef) W → Below w0.heap.size w0 W → Q .normal aq W) :
    (Code.region idq #[{ dst := some 17, op := Op.move (Operand.tmp 0), type := t0, pos := q0, after := #[], guard := none },
    { dst := some 18, op := Op.move (Operand.tmp 5), type := t1, pos := q1, after := #[], guard := none },
    { dst := some 19, op := Op.indexAddr 29 (Operand.tmp 17) (Operand.tmp 18), type := t2, pos := q2, after := #[{ on := 0, ground := Ground.data }, { on := 1, ground := Ground.data }], guard := none },
    { dst := some 20, op := Op.load 95 (Operand.tmp 19), type := t3, pos := q3, after := #[{ on := 2, ground := Ground.data }], guard := none },
    { dst := some 21, op := Op.move (Operand.tmp 1), type := t4, pos := q4, after := #[], guard := none },
    { dst := some 22, op := Op.move (Operand.tmp 5), type := t5, pos := q5, after := #[], guard := none },
    { dst := some 23, op := Op.indexAddr 29 (Operand.tmp 21) (Operand.tmp 22), type := t6, pos := q6, after := #[{ on := 4, ground := Ground.data }, { on := 5, ground := Ground.data }], guard := none },
    { dst := some 24, op := Op.load 95 (Operand.tmp 23), type := t7, pos := q7, after := #[{ on := 6, ground := Ground.data }], guard := none },
    { dst := some 25, op := Op.call { callee := Callee.value (Operand.func 52), args := #[Operand.tmp 20, Operand.tmp 24], argTypes := #[95, 95] }, type := t8, pos := q8, after := #[{ on := 3, ground := Ground.data }, { on := 7, ground := Ground.data }], guard := none },
    { dst := some 26, op := Op.unOp UnOp.not 4 (Operand.tmp 25), type := t9, pos := q9, after := #[{ on := 8, ground := Ground.data }], guard := none }] true).wp Try.prog Q a0 w0 := by
  have hS : distS [some 17, some 18, some 19, some 20, some 21, some 22, some 23, some 24, some 25, some 26] = true := rfl
  refine wp_region_q (by kernel_rfl) w0.heap.size [some 17, some 18, some 19, some 20, some 21, some 22, some 23, some 24, some 25, some 26] (VqeJ A off D od n ca cb c m mc md ao co x y z t w0.heap.size) rfl ?_ ?_
  · intro Q lq aq W iq oq hJ hl ho hall
    have hJ2 := hJ
    obtain ⟨z1, z2, z3, z4, z5, z6, z7⟩ := hJ
    have g0 : aq.tmps.getD 0 undef = .slice (some ⟨A, off, none⟩) n ca := by rw [Array.getD_eq_getD_getElem?, z4 0 (by decide), h0]; rfl
    have g1 : aq.tmps.getD 1 undef = .slice (some ⟨D, od, none⟩) n cb := by rw [Array.getD_eq_getD_getElem?, z4 1 (by decide), h1]; rfl
    have g5 : aq.tmps.getD 5 undef = .int .i64 (c : Int) := by rw [Array.getD_eq_getD_getElem?, z4 5 (by decide), h5]; rfl
    have c0 : W.cell? ⟨A, off + c * 5, none⟩ = some (.int .i64 x) := (z5.cell l0).trans k0
    have c1 : W.cell? ⟨A, off + c * 5 + 1, none⟩ = some (.int .i64 y) := (z5.cell l1).trans k1
    have c2 : W.cell? ⟨A, off + c * 5 + 2, none⟩ = some (.int .i64 z) := (z5.cell l2).trans k2
    have c3 : W.cell? ⟨A, off + c * 5 + 3, none⟩ = some (.bool t) := (z5.cell l3).trans k3
    have c4 : W.cell? ⟨A, off + c * 5 + 4, none⟩ = some (.slice ao m mc) := (z5.cell l4).trans k4
    have c5 : W.cell? ⟨D, od + c * 5, none⟩ = some (.int .i64 x) := (z5.cell l5).trans k5
    have c6 : W.cell? ⟨D, od + c * 5 + 1, none⟩ = some (.int .i64 y) := (z5.cell l6).trans k6
    have c7 : W.cell? ⟨D, od + c * 5 + 2, none⟩ = some (.int .i64 z) := (z5.cell l7).trans k7
    have c8 : W.cell? ⟨D, od + c * 5 + 3, none⟩ = some (.bool t) := (z5.cell l8).trans k8
    have c9 : W.cell? ⟨D, od + c * 5 + 4, none⟩ = some (.slice co m md) := (z5.cell l9).trans k9
    match iq, ho with
    | 0, ho =>
      cases ho
      refine wpOp_of rfl rfl ?_
      have hK := fun (v : Value) (W2 : World) hW hT hv => hJ2.put hS 0 17 rfl (by omega) (W' := W2) hW hT v hv
      clear ho hall hl hQ
      generalize InvQ _ _ _ w0 a0 (lq.setIfInBounds 0 true) = K at hK ⊢
      clear hJ2 hS z1 z2 z3 z4 z6 z7
      go_simp
      exact hK _ _ z5 (fun _ _ h => h) rfl
    | 1, ho =>
      cases ho
      refine wpOp_of rfl rfl ?_
      have hK := fun (v : Value) (W2 : World) hW hT hv => hJ2.put hS 1 18 rfl (by omega) (W' := W2) hW hT v hv
      clear ho hall hl hQ
      generalize InvQ _ _ _ w0 a0 (lq.setIfInBounds 1 true) = K at hK ⊢
      clear hJ2 hS z1 z2 z3 z4 z6 z7
      go_simp
      exact hK _ _ z5 (fun _ _ h => h) rfl
    | 2, ho =>
      cases ho
      refine wpOp_of rfl rfl ?_
      have f0 : (aq.tmps.getD 17 undef) = .slice (some ⟨A, off, none⟩) n ca := z6 0 17 (hall { on := 0, ground := Ground.data } (by simp) rfl) rfl
      have f1 : (aq.tmps.getD 18 undef) = .int .i64 (c : Int) := z6 1 18 (hall { on := 1, ground := Ground.data } (by simp) rfl) rfl
      have hcI : (c : Int) < n := by omega
      have hnI : (n : Int) ≤ 1048576 := by omega
      have hK := fun (v : Value) (W2 : World) hW hT hv => hJ2.put hS 2 19 rfl (by omega) (W' := W2) hW hT v hv
      clear ho hall hl hQ
      generalize InvQ _ _ _ w0 a0 (lq.setIfInBounds 2 true) = K at hK ⊢
      clear hJ2 hS z1 z2 z3 z4 z6 z7
      go_simp
      exact hK _ _ z5 (fun _ _ h => h) rfl
    | 3, ho =>
      cases ho
      refine wpOp_of rfl rfl ?_
      have f2 : (aq.tmps.getD 19 undef) = .pointer (some ⟨A, off + c * 5, none⟩) := z6 2 19 (hall { on := 2, ground := Ground.data } (by simp) rfl) rfl
      have hK := fun (v : Value) (W2 : World) hW hT hv => hJ2.put hS 3 20 rfl (by omega) (W' := W2) hW hT v hv
      clear ho hall hl hQ
      generalize InvQ _ _ _ w0 a0 (lq.setIfInBounds 3 true) = K at hK ⊢
      clear hJ2 hS z1 z2 z3 z4 z6 z7
      go_simp
      exact hK _ _ z5 (fun _ _ h => h) rfl
    | 4, ho =>
      cases ho
      refine wpOp_of rfl rfl ?_
      have hK := fun (v : Value) (W2 : World) hW hT hv => hJ2.put hS 4 21 rfl (by omega) (W' := W2) hW hT v hv
      clear ho hall hl hQ
      generalize InvQ _ _ _ w0 a0 (lq.setIfInBounds 4 true) = K at hK ⊢
      clear hJ2 hS z1 z2 z3 z4 z6 z7
      go_simp
      exact hK _ _ z5 (fun _ _ h => h) rfl
    | 5, ho =>
      cases ho
      refine wpOp_of rfl rfl ?_
      have hK := fun (v : Value) (W2 : World) hW hT hv => hJ2.put hS 5 22 rfl (by omega) (W' := W2) hW hT v hv
      clear ho hall hl hQ
      generalize InvQ _ _ _ w0 a0 (lq.setIfInBounds 5 true) = K at hK ⊢
      clear hJ2 hS z1 z2 z3 z4 z6 z7
      go_simp
      exact hK _ _ z5 (fun _ _ h => h) rfl
    | 6, ho =>
      cases ho
      refine wpOp_of rfl rfl ?_
      have f4 : (aq.tmps.getD 21 undef) = .slice (some ⟨D, od, none⟩) n cb := z6 4 21 (hall { on := 4, ground := Ground.data } (by simp) rfl) rfl
      have f5 : (aq.tmps.getD 22 undef) = .int .i64 (c : Int) := z6 5 22 (hall { on := 5, ground := Ground.data } (by simp) rfl) rfl
      have hcI : (c : Int) < n := by omega
      have hnI : (n : Int) ≤ 1048576 := by omega
      have hK := fun (v : Value) (W2 : World) hW hT hv => hJ2.put hS 6 23 rfl (by omega) (W' := W2) hW hT v hv
      clear ho hall hl hQ
      generalize InvQ _ _ _ w0 a0 (lq.setIfInBounds 6 true) = K at hK ⊢
      clear hJ2 hS z1 z2 z3 z4 z6 z7
      go_simp
      exact hK _ _ z5 (fun _ _ h => h) rfl
    | 7, ho =>
      cases ho
      refine wpOp_of rfl rfl ?_
      have f6 : (aq.tmps.getD 23 undef) = .pointer (some ⟨D, od + c * 5, none⟩) := z6 6 23 (hall { on := 6, ground := Ground.data } (by simp) rfl) rfl
      have hK := fun (v : Value) (W2 : World) hW hT hv => hJ2.put hS 7 24 rfl (by omega) (W' := W2) hW hT v hv
      clear ho hall hl hQ
      generalize InvQ _ _ _ w0 a0 (lq.setIfInBounds 7 true) = K at hK ⊢
      clear hJ2 hS z1 z2 z3 z4 z6 z7
      go_simp
      exact hK _ _ z5 (fun _ _ h => h) rfl
    | 8, ho =>
      cases ho
      refine wpOp_of rfl rfl ?_
      have f3 : (aq.tmps.getD 20 undef) = .agg #[.int .i64 x, .int .i64 y, .int .i64 z, .bool t, .slice ao m mc] := z6 3 20 (hall { on := 3, ground := Ground.data } (by simp) rfl) rfl
      have f7 : (aq.tmps.getD 24 undef) = .agg #[.int .i64 x, .int .i64 y, .int .i64 z, .bool t, .slice co m md] := z6 7 24 (hall { on := 7, ground := Ground.data } (by simp) rfl) rfl
      have hK := fun (v : Value) (W2 : World) hW hT hv => hJ2.put hS 8 25 rfl (by omega) (W' := W2) hW hT v hv
      clear ho hall hl hQ
      generalize InvQ _ _ _ w0 a0 (lq.setIfInBounds 8 true) = K at hK ⊢
      clear hJ2 hS z1 z2 z3 z4 z6 z7
      go_simp
      refine (eqBlock_same x y z t ao co m mc md e hm W (hNA.step z5) (hNB.step z5)).mono ?_
      rintro e v1 ⟨rfl, hBv⟩
      exact hK _ _ (z5.trans (hBv.mono z5.size)) (fun j v h => h.mono hBv) rfl
    | 9, ho =>
      cases ho
      refine wpOp_of rfl rfl ?_
      have f8 : (aq.tmps.getD 25 undef) = .bool true := z6 8 25 (hall { on := 8, ground := Ground.data } (by simp) rfl) rfl
      have hK := fun (v : Value) (W2 : World) hW hT hv => hJ2.put hS 9 26 rfl (by omega) (W' := W2) hW hT v hv
      clear ho hall hl hQ
      generalize InvQ _ _ _ w0 a0 (lq.setIfInBounds 9 true) = K at hK ⊢
      clear hJ2 hS z1 z2 z3 z4 z6 z7
      go_simp
      exact hK _ _ z5 (fun _ _ h => h) rfl
    | iq + 10, ho => simp at ho
  · intro lq aq W hJ hr
    obtain ⟨z1, z2, z3, z4, z5, z6, z7⟩ := hJ
    have hl := listed_of hr [0, 1, 2, 3, 4, 5, 6, 7, 8, 9] [] (by simp) (by kernel_rfl) (by rw [z1]; decide)
    exact hQ aq W z2 z3 (fun e he => z4 e (by simpa using he)) (z6 9 26 (hl 9 (by simp)) rfl) z5
set_option maxRecDepth 100000 in
set_option maxHeartbeats 2000000 in
theorem eqBlockS_any (Q : QD) (ao bo : Option Addr) (ca cb A off D od : Nat) (so ro : Nat → Option Addr × Nat) (hN : Q.N ≤ 1048576) (hL : ∀ i, i < Q.N → Q.L i ≤ 1048576) (w : World) (hao : 0 < Q.N → ao = some ⟨A, off, none⟩) (hbo : 0 < Q.N → bo = some ⟨D, od, none⟩) (hA : BlIn Q w A off so) (hC : BlIn Q w D od ro) : Calls Try.prog 27 #[.slice ao Q.N ca, .slice bo Q.N cb] w (VP (.bool true) w) := by
  obtain ⟨n, hn⟩ : ∃ n, Q.N = n := ⟨_, rfl⟩
  have HN : Hid (Q.N = n) := hn
  have HL : Hid (∀ i, i < n → Q.L i ≤ 1048576) := by rw [← hn]; exact hL
  have HAO : Hid (0 < n → ao = some ⟨A, off, none⟩) := by rw [← hn]; exact hao
  have HBO : Hid (0 < n → bo = some ⟨D, od, none⟩) := by rw [← hn]; exact hbo
  have HA : Hid (BlIn Q w A off so) := hA
  have HC : Hid (BlIn Q w D od ro) := hC
  have hnI : (n : Int) ≤ 1048576 := by omega
  have hn2 : n ≤ 1048576 := by omega
  rw [hn]
  clear hA hC hn hL hao hbo hN
  go_enter Try.func27, Try.ntmps27
  go_wp2_with fail
  go_loopw [5] (fun i wr => ∃ c : Nat, c ≤ n ∧ i = .int .i64 c ∧ Below w.heap.size w wr) (fun i _ => n - (intOf i).toNat)
  case atStart => exact ⟨0, by omega, rfl, Below.refl _ _⟩
  case round =>
    obtain ⟨c, hc, rfl, HB⟩ := hrel
    by_cases hcn : c < n
    · obtain rfl := HAO.out (by omega)
      obtain rfl := HBO.out (by omega)
      obtain ⟨hA, q0, q1, q2, q3, q4, hNA⟩ := HA.out.below HB c (by rw [HN.out]; exact hcn)
      obtain ⟨hD, r0, r1, r2, r3, r4, hNB⟩ := HC.out.below HB c (by rw [HN.out]; exact hcn)
      have hcI : (c : Int) < n := by omega
      go_upto_region 6 with fail
      refine qeJ (A := A) (off := off) (D := D) (od := od) (n := n) (ca := ca) (cb := cb) (c := c) (m := Q.L c) (mc := (so c).2) (md := (ro c).2) (ao := (so c).1) (co := (ro c).1) (x := Q.X c) (y := Q.Y c) (z := Q.Z c) (t := Q.T c) (e := Q.E c) hcn hn2 (HL.out c hcn) hNA hNB rfl rfl rfl q0 hA q1 hA q2 hA q3 hA q4 hA r0 hD r1 hD r2 hD r3 hD r4 hD rfl ?_
      rintro ⟨tm, df⟩ Wz hz hdf hoff hx hBz
      simp only at hz hdf hoff hx
      change tm.getD 26 undef = .bool false at hx
      subst hdf
      have htm := tmps_fold [17, 18, 19, 20, 21, 22, 23, 24, 25, 26] tm _ hz hoff
      simp only [List.foldl, List.setIfInBounds_toArray, List.set_cons_zero, List.set_cons_succ, hx] at htm
      clear hz hoff
      generalize tm.getD 17 undef = pz0, tm.getD 18 undef = pz1, tm.getD 19 undef = pz2, tm.getD 20 undef = pz3, tm.getD 21 undef = pz4, tm.getD 22 undef = pz5, tm.getD 23 undef = pz6, tm.getD 24 undef = pz7, tm.getD 25 undef = pz8 at htm
      clear hx
      subst htm
      have HB2 := HB.trans (hBz.mono HB.size)
      clear HB hBz q0 q1 q2 q3 q4 r0 r1 r2 r3 r4 hNA hNB
      go_wp2
      go_roundw
      case rel => exact ⟨c + 1, by omega, by go_num, HB2⟩
      case measure => simp [intOf]; omega
    · obtain rfl : c = n := by omega
      clear HA HC
      go_wp2
      go_ret
      exact ⟨rfl, HB⟩
/-- A tree that was copied: its items' row, its blocks' row, their numbers. -/
structure QuRow (Q : QD) (w : World) (b gi gb : Nat) (S : Nat → Nat) : Prop where
  its : w.rowIs gi 75 (Q.m * 5) (fun i => .int .i64 (xI Q i))
  lt : b ≤ gi
  bls : BlRow Q w b gb S
  d1 : gi ≠ gb
  d2 : ∀ j, j < Q.N → S j ≠ gi
theorem QuRow.step {Q : QD} {w w' : World} {b gi gb : Nat} {S : Nat → Nat} (h : QuRow Q w b gi gb S) (hB : Below w.heap.size w w') : QuRow Q w' b gi gb S :=
  ⟨rowI_step h.its hB, h.lt, h.bls.step hB, h.d1, h.d2⟩
theorem QuRow.setOther {Q : QD} {w : World} {b gi gb g : Nat} {S : Nat → Nat} (h : QuRow Q w b gi gb S) (hg : g < b) (k : Nat) (v : Value) : QuRow Q (w.setCell ⟨g, k, none⟩ v) b gi gb S :=
  ⟨h.its.setOther (by show gi ≠ g; have := h.lt; omega) v, h.lt, ⟨h.bls.row.setOther (by show gb ≠ g; have := h.bls.lt; omega) v, h.bls.lt, fun j hj => ⟨(h.bls.ids j hj).1, (h.bls.ids j hj).2.1, (h.bls.ids j hj).2.2.setOther (by show S j ≠ g; have := (h.bls.ids j hj).1; omega) v⟩⟩, h.d1, h.d2⟩
set_option maxRecDepth 100000 in
set_option maxHeartbeats 4000000 in
theorem toQuad_any (Q : QD) (ao bo : Option Addr) (cap bcap A off : Nat) (so : Nat → Option Addr × Nat) (m d : Int) (hm : Q.m ≤ 1048576) (hN : Q.N ≤ 1048576) (hL : ∀ i, i < Q.N → Q.L i ≤ 1048576) (hbo : 0 < Q.N → bo = some ⟨A, off, none⟩) (w : World) (hS : ItIn Q w ao (List.range Q.m)) (hBl : BlIn Q w A off so) : Calls Try.prog 8 #[.agg #[.int .i64 m, .int .i64 d, .slice ao Q.m cap, .slice bo Q.N bcap]] w (fun r w' => ∃ gi gb S, r = .returned (.agg #[.int .i64 m, .int .i64 d, .slice (some ⟨gi, 0, none⟩) Q.m Q.m, .slice (some ⟨gb, 0, none⟩) Q.N Q.N]) ∧ QuRow Q w' w.heap.size gi gb S ∧ Below w.heap.size w w') := by
  have B0 : Blk ((w.alloc (.cells #[.int .i64 m, .int .i64 d, .slice ao Q.m cap, .slice bo Q.N bcap] 25)).alloc (.cells #[.int .i64 0, .int .i64 0, .slice none 0 0, .slice none 0 0] 31)) w.heap.size [.int .i64 m, .int .i64 d, .slice ao Q.m cap, .slice bo Q.N bcap] := (Blk.new w [.int .i64 m, .int .i64 d, .slice ao Q.m cap, .slice bo Q.N bcap] 25 rfl).alloc _
  have B1 : Blk ((w.alloc (.cells #[.int .i64 m, .int .i64 d, .slice ao Q.m cap, .slice bo Q.N bcap] 25)).alloc (.cells #[.int .i64 0, .int .i64 0, .slice none 0 0, .slice none 0 0] 31)) (w.heap.size + 1) [.int .i64 0, .int .i64 0, .slice none 0 0, .slice none 0 0] := Blk.new (w.alloc (.cells #[.int .i64 m, .int .i64 d, .slice ao Q.m cap, .slice bo Q.N bcap] 25)) [.int .i64 0, .int .i64 0, .slice none 0 0, .slice none 0 0] 31 (by simp)
  have HB : Below w.heap.size w ((w.alloc (.cells #[.int .i64 m, .int .i64 d, .slice ao Q.m cap, .slice bo Q.N bcap] 25)).alloc (.cells #[.int .i64 0, .int .i64 0, .slice none 0 0, .slice none 0 0] 31)) := ((Below.refl _ w).alloc (Nat.le_refl _) _).alloc (by simp) _
  have T1 := fun w h => toItemS_any Q ao cap hm w h
  have T2 := fun w h => toBlockS_any Q bo bcap A off so hN hL hbo w h
  have HS : Hid (ItIn Q w ao (List.range Q.m)) := hS
  have HBL : Hid (BlIn Q w A off so) := hBl
  clear hS hBl
  go_enter Try.func8, Try.ntmps8
  go_upto_region 1 with fail
  have hs : ((w.alloc (.cells #[.int .i64 m, .int .i64 d, .slice ao Q.m cap, .slice bo Q.N bcap] 25)).alloc (.cells #[.int .i64 0, .int .i64 0, .slice none 0 0, .slice none 0 0] 31)).heap.size = w.heap.size + 2 := by simp
  generalize ((w.alloc (.cells #[.int .i64 m, .int .i64 d, .slice ao Q.m cap, .slice bo Q.N bcap] 25)).alloc (.cells #[.int .i64 0, .int .i64 0, .slice none 0 0, .slice none 0 0] 31)) = W1 at *
  have e0 := (B0.alloc (.cells #[.int .i64 0, .int .i64 0, .slice none 0 0, .slice none 0 0] 31)).c 0 rfl; have e1 := (B0.alloc (.cells #[.int .i64 m, .int .i64 0, .slice none 0 0, .slice none 0 0] 31)).c 1 rfl
  replace B0 := B0.alloc (.cells #[.int .i64 m, .int .i64 d, .slice none 0 0, .slice none 0 0] 31)
  replace B1 := B1.alloc (.cells #[.int .i64 m, .int .i64 d, .slice none 0 0, .slice none 0 0] 31)
  have B2 := Blk.new W1 [.int .i64 m, .int .i64 d, .slice none 0 0, .slice none 0 0] 31 (g := w.heap.size + 2) hs.symm
  replace HB := HB.alloc HB.size (.cells #[.int .i64 m, .int .i64 d, .slice none 0 0, .slice none 0 0] 31)
  go_upto_region 4 with fail
  clear e0 e1
  generalize (W1.alloc (.cells #[.int .i64 m, .int .i64 d, .slice none 0 0, .slice none 0 0] 31)) = W2 at *
  clear hs
  have hl2 := B2.lt
  have e2 := B0.c 2 rfl
  go_wp2_with fail
  refine (T1 _ (HS.out.step HB)).mono ?_
  rintro r w1 ⟨gi, rfl, hgi, R1, hB⟩
  replace B0 := B0.step hB; replace B1 := B1.step hB; replace B2 := B2.step hB
  replace HB := HB.trans (hB.mono HB.size)
  clear hB T1 e2
  have d2 := B2.c 2 rfl; have f2 := B2.f 2 rfl
  have hr1 := R1.lt
  replace B0 := B0.setO (p := ⟨w.heap.size + 2, 2, none⟩) (by show w.heap.size ≠ w.heap.size + 2; omega) (.slice (some ⟨gi, 0, none⟩) Q.m Q.m)
  replace B1 := B1.setO (p := ⟨w.heap.size + 2, 2, none⟩) (by show w.heap.size + 1 ≠ w.heap.size + 2; omega) (.slice (some ⟨gi, 0, none⟩) Q.m Q.m)
  replace B2 := B2.setI 2 (by simp) (.slice (some ⟨gi, 0, none⟩) Q.m Q.m)
  replace R1 := R1.setOther (a := ⟨w.heap.size + 2, 2, none⟩) (by show gi ≠ w.heap.size + 2; omega) (.slice (some ⟨gi, 0, none⟩) Q.m Q.m)
  replace HB := HB.setCell (p := ⟨w.heap.size + 2, 2, none⟩) (by show w.heap.size ≤ w.heap.size + 2; omega) (.slice (some ⟨gi, 0, none⟩) Q.m Q.m)
  simp only [List.set_cons_zero, List.set_cons_succ] at B2
  go_upto_region 5 with fail
  clear d2 f2
  have hsz : (w1.setCell ⟨w.heap.size + 2, 2, none⟩ (.slice (some ⟨gi, 0, none⟩) Q.m Q.m)).heap.size = w1.heap.size := by simp [World.setCell]
  have hgi1 : gi < (w1.setCell ⟨w.heap.size + 2, 2, none⟩ (.slice (some ⟨gi, 0, none⟩) Q.m Q.m)).heap.size := by rw [hsz]; exact hr1
  clear hsz hr1
  generalize (w1.setCell ⟨w.heap.size + 2, 2, none⟩ (.slice (some ⟨gi, 0, none⟩) Q.m Q.m)) = W3 at *
  have hl3 := B2.lt
  have e3 := B0.c 3 rfl
  go_wp2_with fail
  refine (T2 _ (HBL.out.below HB)).mono ?_
  rintro r w4 ⟨gb, S, rfl, R2, hB⟩
  replace B1 := B1.step hB; replace B2 := B2.step hB
  replace HB := HB.trans (hB.mono HB.size)
  replace R1 := rowI_step R1 hB
  have hgb := R2.lt
  have RQ : QuRow Q w4 (w.heap.size + 3) gi gb S := ⟨R1, by omega, ⟨R2.row, by omega, fun j hj => ⟨by have := (R2.ids j hj).1; omega, (R2.ids j hj).2⟩⟩, by omega, fun j hj => by have := (R2.ids j hj).1; omega⟩
  clear hB T2 e3 B0 R1 R2
  have d3 := B2.c 3 rfl; have f3 := B2.f 3 rfl
  have BN := B2.setI 3 (by simp) (.slice (some ⟨gb, 0, none⟩) Q.N Q.N)
  have BM := B1.setO (p := ⟨w.heap.size + 2, 3, none⟩) (by show w.heap.size + 1 ≠ w.heap.size + 2; omega) (.slice (some ⟨gb, 0, none⟩) Q.N Q.N)
  have HN := HB.setCell (p := ⟨w.heap.size + 2, 3, none⟩) (by show w.heap.size ≤ w.heap.size + 2; omega) (.slice (some ⟨gb, 0, none⟩) Q.N Q.N)
  have RQ2 : QuRow Q (w4.setCell ⟨w.heap.size + 2, 3, none⟩ (.slice (some ⟨gb, 0, none⟩) Q.N Q.N)) (w.heap.size + 3) gi gb S := RQ.setOther (by omega) 3 _
  simp only [List.set_cons_zero, List.set_cons_succ] at BN
  clear B1 B2 HB RQ
  go_upto_region 6 with fail
  clear d3 f3
  generalize (w4.setCell ⟨w.heap.size + 2, 3, none⟩ (.slice (some ⟨gb, 0, none⟩) Q.N Q.N)) = W5 at *
  have e0 := BN.c 0 rfl; have e1 := BN.c 1 rfl; have e2 := BN.c 2 rfl; have e3 := BN.c 3 rfl
  have g0 := BM.c 0 rfl; have g1 := BM.c 1 rfl; have g2 := BM.c 2 rfl; have g3 := BM.c 3 rfl; have h0 := BM.f 0 rfl; have h1 := BM.f 1 rfl; have h2 := BM.f 2 rfl; have h3 := BM.f 3 rfl
  have BF : Hid (Blk ((((W5.setCell ⟨(w.heap.size + 1), 0, none⟩ (.int .i64 m)).setCell ⟨(w.heap.size + 1), 1, none⟩ (.int .i64 d)).setCell ⟨(w.heap.size + 1), 2, none⟩ (.slice (some ⟨gi, 0, none⟩) Q.m Q.m)).setCell ⟨(w.heap.size + 1), 3, none⟩ (.slice (some ⟨gb, 0, none⟩) Q.N Q.N)) (w.heap.size + 1) [.int .i64 m, .int .i64 d, .slice (some ⟨gi, 0, none⟩) Q.m Q.m, .slice (some ⟨gb, 0, none⟩) Q.N Q.N]) := (((BM.setI 0 (by decide) _).setI 1 (by simp) _).setI 2 (by simp) _).setI 3 (by simp) _
  have RF : Hid (QuRow Q ((((W5.setCell ⟨(w.heap.size + 1), 0, none⟩ (.int .i64 m)).setCell ⟨(w.heap.size + 1), 1, none⟩ (.int .i64 d)).setCell ⟨(w.heap.size + 1), 2, none⟩ (.slice (some ⟨gi, 0, none⟩) Q.m Q.m)).setCell ⟨(w.heap.size + 1), 3, none⟩ (.slice (some ⟨gb, 0, none⟩) Q.N Q.N)) (w.heap.size + 3) gi gb S) := (((RQ2.setOther (by omega) 0 _).setOther (by omega) 1 _).setOther (by omega) 2 _).setOther (by omega) 3 _
  clear BM BN RQ2
  go_wp2
  have r0 := BF.out.c 0 rfl; have r1 := BF.out.c 1 rfl; have r2 := BF.out.c 2 rfl; have r3 := BF.out.c 3 rfl
  refine bodyPost_ret (v := .agg #[.int .i64 m, .int .i64 d, .slice (some ⟨gi, 0, none⟩) Q.m Q.m, .slice (some ⟨gb, 0, none⟩) Q.N Q.N]) (by simp [results, Try.results8, go_sem, r0, r1, r2, r3]) rfl ?_
  refine ⟨gi, gb, S, rfl, ?_, (((HN.setCell (Nat.le_succ _) _).setCell (Nat.le_succ _) _).setCell (Nat.le_succ _) _).setCell (Nat.le_succ _) _⟩
  exact ⟨RF.out.its, by have := RF.out.lt; omega, ⟨RF.out.bls.row, by have := RF.out.bls.lt; omega, fun j hj => ⟨by have := (RF.out.bls.ids j hj).1; omega, (RF.out.bls.ids j hj).2⟩⟩, RF.out.d1, RF.out.d2⟩
end Go.Proofs.Ytaagmdhbfbikfaa
