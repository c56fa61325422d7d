/- Part 10 of the walks that the proof leans on. -/
import Derived.Test.YteakhlipmmfilaaGreatLt9
import Derived.Test.YteakhlipmmfilaaGreatLt4
import Derived.Test.YteakhlipmmfilaaGreatLt3
import Derived.Test.YteakhlipmmfilaaGreatLt6
import Derived.SizedLaws
import Derived.Deep.Slices
import Derived.Test.YteakhlipmmfilaaGreatRows
import Derived.ProofKit
import Derived.Lib.SmallJoins
import Derived.Test.YteakhlipmmfilaaGreatLt1
import Derived.Shelf.SlSortCmp.WholeK
/- On which side of a ring a point lies: the model's walk. -/
namespace Go.Proofs.YteakhlipmmfilaaGreat
open Go.RowKit
/-- A point of the model, by its numbers. -/
def L3W (x y z : Int) (v : Value) (W : World) : Prop :=
  ∃ (s1 : Bool) (o1 : Option Addr) (n1 c1 : Nat) (d1 : List Int) (s2 : Bool) (o2 : Option Addr) (n2 c2 : Nat) (d2 : List Int) (s3 : Bool) (o3 : Option Addr) (n3 c3 : Nat) (d3 : List Int), v = .agg #[.bool s1, .slice o1 n1 c1, .bool s2, .slice o2 n2 c2, .bool s3, .slice o3 n3 c3] ∧ IsNum W s1 o1 n1 c1 d1 x 8 ∧ IsNum W s2 o2 n2 c2 d2 y 8 ∧ IsNum W s3 o3 n3 c3 d3 z 8
theorem L3W.step {x y z : Int} {v : Value} {W W2 : World} (h : L3W x y z v W) (hB : Below W.heap.size W W2) : L3W x y z v W2 := by
  obtain ⟨s1, o1, n1, c1, d1, s2, o2, n2, c2, d2, s3, o3, n3, c3, d3, e, N1, N2, N3⟩ := h
  exact ⟨s1, o1, n1, c1, d1, s2, o2, n2, c2, d2, s3, o3, n3, c3, d3, e, N1.below hB, N2.below hB, N3.below hB⟩
def VregCuts (a b c d x y z : Int) (Bs : Nat) (rs1 rs2 rs3 : Bool) (ro1 ro2 ro3 : Option Addr) (rn1 rc1 rn2 rc2 rn3 rc3 : Nat) (_B : Nat) : Nat → Value → World → Prop
  | 0, v, _ => v = .pointer (some ⟨Bs, 0, none⟩)
  | 1, v, _ => v = Sp a b
  | 2, v, W => L3W a b 1 v W
  | 3, v, _ => v = .pointer (some ⟨Bs, 2, none⟩)
  | 4, v, _ => v = Sp c d
  | 5, v, W => L3W c d 1 v W
  | 6, v, _ => v = .agg #[.bool rs1, .slice ro1 rn1 rc1, .bool rs2, .slice ro2 rn2 rc2, .bool rs3, .slice ro3 rn3 rc3]
  | 7, v, _ => v = .bool (ctB a b 1 c d 1 x y z)
  | _, _, _ => True
theorem VregCuts.mono {a b c d x y z : Int} {Bs : Nat} {rs1 rs2 rs3 : Bool} {ro1 ro2 ro3 : Option Addr} {rn1 rc1 rn2 rc2 rn3 rc3 : Nat} {B j : Nat} {v : Value} {W W2 : World} (hB : Below W.heap.size W W2) (h : VregCuts a b c d x y z Bs rs1 rs2 rs3 ro1 ro2 ro3 rn1 rc1 rn2 rc2 rn3 rc3 B j v W) : VregCuts a b c d x y z Bs rs1 rs2 rs3 ro1 ro2 ro3 rn1 rc1 rn2 rc2 rn3 rc3 B j v W2 := by
  unfold VregCuts at *
  split <;> simp only at h <;> first | exact h | exact h.step hB | trivial
end Go.Proofs.YteakhlipmmfilaaGreat

/- On which side of a ring a point lies: both answers. -/
namespace Go.Proofs.YteakhlipmmfilaaGreat
open Go.RowKit
/-- What is told of a ring and a point. -/
def rsV (n : Nat) (p : Ps) (x y z : Int) : Int := if rgF n p = 0 ∧ ptB x y z = true then sdR n p x y z else 2
def VregSpecSide (ao : Option Addr) (n cap : Nat) (p : Ps) (x y z : Int) (_B : Nat) : Nat → Value → World → Prop
  | 0, v, _ => v = .agg #[.slice ao n cap]
  | 1, v, _ => v = PV x y z
  | 2, v, W => L3W x y z v W
  | 3, v, _ => v = .int .i64 (sdR n p x y z)
  | 4, v, _ => v = .int .i64 (sdR n p x y z)
  | _, _, _ => True
theorem VregSpecSide.mono {ao : Option Addr} {n cap : Nat} {p : Ps} {x y z : Int} {B j : Nat} {v : Value} {W W2 : World} (hB : Below W.heap.size W W2) (h : VregSpecSide ao n cap p x y z B j v W) : VregSpecSide ao n cap p x y z B j v W2 := by
  unfold VregSpecSide at *
  split <;> simp only at h <;> first | exact h | exact h.step hB | trivial
end Go.Proofs.YteakhlipmmfilaaGreat

/- On which side of a ring a point lies: the law. -/
namespace Go.Proofs.YteakhlipmmfilaaGreat
open Go.RowKit
/-- A ring of the call's own, by its spots. -/
def RgV (n : Nat) (p : Ps) (v : Value) (W : World) : Prop := ∃ g, v = .agg #[.slice (some ⟨g, 0, none⟩) n n] ∧ SpIn W (some ⟨g, 0, none⟩) n p
theorem RgV.step {n : Nat} {p : Ps} {v : Value} {W W2 : World} (h : RgV n p v W) (hB : Below W.heap.size W W2) : RgV n p v W2 := by
  obtain ⟨g, e, hs⟩ := h
  exact ⟨g, e, hs.step hB⟩
def VregLawSide5 (ao : Option Addr) (n cap : Nat) (p : Ps) (x y z : Int) (_B : Nat) : Nat → Value → World → Prop
  | 0, v, _ => v = .agg #[.slice ao n cap]
  | 1, v, W => RgV n p v W
  | 2, v, _ => v = PV x y z
  | 3, v, _ => v = PV x y z
  | 4, v, _ => v = .int .i64 (rsV n p x y z)
  | 5, v, _ => v = .int .i64 (rsV n p x y z)
  | _, _, _ => True
theorem VregLawSide5.mono {ao : Option Addr} {n cap : Nat} {p : Ps} {x y z : Int} {B j : Nat} {v : Value} {W W2 : World} (hB : Below W.heap.size W W2) (h : VregLawSide5 ao n cap p x y z B j v W) : VregLawSide5 ao n cap p x y z B j v W2 := by
  unfold VregLawSide5 at *
  split <;> simp only at h <;> first | exact h | exact h.step hB | trivial
def VregLawSide7 (g1 n : Nat) (p : Ps) (x y z : Int) (_B : Nat) : Nat → Value → World → Prop
  | 0, v, _ => v = .agg #[.slice (some ⟨g1, 0, none⟩) n n]
  | 1, v, _ => v = PV x y z
  | 2, v, _ => v = PV x y z
  | 3, v, _ => v = .int .i64 (rsV n p x y z)
  | 4, v, _ => v = .int .i64 (rsV n p x y z)
  | _, _, _ => True
theorem VregLawSide7.mono {g1 n : Nat} {p : Ps} {x y z : Int} {B j : Nat} {v : Value} {W W2 : World} (_hB : Below W.heap.size W W2) (h : VregLawSide7 g1 n p x y z B j v W) : VregLawSide7 g1 n p x y z B j v W2 := by
  unfold VregLawSide7 at *
  split <;> simp only at h <;> first | exact h | trivial
def VregLawSide10 (ao : Option Addr) (g1 n cap : Nat) (p : Ps) (_B : Nat) : Nat → Value → World → Prop
  | 0, v, _ => v = .agg #[.slice (some ⟨g1, 0, none⟩) n n]
  | 1, v, _ => v = .agg #[.slice ao n cap]
  | 2, v, W => RgV n p v W
  | 3, v, _ => v = .bool true
  | 4, v, _ => v = .bool false
  | _, _, _ => True
theorem VregLawSide10.mono {ao : Option Addr} {g1 n cap : Nat} {p : Ps} {B j : Nat} {v : Value} {W W2 : World} (hB : Below W.heap.size W W2) (h : VregLawSide10 ao g1 n cap p B j v W) : VregLawSide10 ao g1 n cap p B j v W2 := by
  unfold VregLawSide10 at *
  split <;> simp only at h <;> first | exact h | exact h.step hB | trivial
end Go.Proofs.YteakhlipmmfilaaGreat

/- Rows of rings: copied, held against one another, counted. -/
namespace Go.Proofs.YteakhlipmmfilaaGreat
open Go.RowKit
/-- n rings lie behind a slice's address, each a slice of spots. -/
def RgIn (w : World) (ao : Option Addr) (n : Nat) (S : Nat → Option Addr × Nat) (L : Nat → Nat) (q : Nat → Ps) : Prop :=
  ∀ i, i < n → ∃ A off, ao = some ⟨A, off, none⟩ ∧ A < w.heap.size ∧ w.cell? ⟨A, off + i, none⟩ = some (.slice (S i).1 (L i) (S i).2) ∧ SpIn w (S i).1 (L i) (q i)
theorem RgIn.step {w w' : World} {ao : Option Addr} {n : Nat} {S : Nat → Option Addr × Nat} {L : Nat → Nat} {q : Nat → Ps} (h : RgIn w ao n S L q) (hB : Below w.heap.size w w') : RgIn w' ao n S L q := fun i hi => by
  obtain ⟨A, off, e, hA, h0, h1⟩ := h i hi
  exact ⟨A, off, e, Nat.lt_of_lt_of_le hA hB.size, (hB.cell (p := ⟨A, off + i, none⟩) hA).trans h0, h1.step hB⟩
theorem RgIn.set {w : World} {ao : Option Addr} {n : Nat} {S : Nat → Option Addr × Nat} {L : Nat → Nat} {q : Nat → Ps} (h : RgIn w ao n S L q) {p : Addr} (ha : ∀ a, ao = some a → a.block ≠ p.block) (hb : ∀ i a, i < n → (S i).1 = some a → a.block ≠ p.block) (u : Value) : RgIn (w.setCell p u) ao n S L q := fun i hi => by
  obtain ⟨A, off, e, hA, h0, h1⟩ := h i hi
  have hk : ∀ g, g ≠ p.block → (w.setCell p u).heap[g]? = w.heap[g]? := fun g hg => Below.heap_setCell _ _ _ _ hg
  refine ⟨A, off, e, by simpa [World.setCell] using hA, (World.cell?_of_block (a := ⟨A, off + i, none⟩) (hk A (ha _ e))).trans h0, fun k hk2 => ?_⟩
  obtain ⟨A2, off2, e2, hA2, c0, c1⟩ := h1 k hk2
  exact ⟨A2, off2, e2, by simpa [World.setCell] using hA2, (World.cell?_of_block (a := ⟨A2, off2 + k * 2, none⟩) (hk A2 (hb i _ hi e2))).trans c0, (World.cell?_of_block (a := ⟨A2, off2 + k * 2 + 1, none⟩) (hk A2 (hb i _ hi e2))).trans c1⟩
theorem RgIn.drew {w : World} {ao : Option Addr} {n : Nat} {S : Nat → Option Addr × Nat} {L : Nat → Nat} {q : Nat → Ps} (h : RgIn w ao n S L q) : RgIn w.drew ao n S L q := h
theorem Tryz.infoRing : (Tryz.prog.info? 57).map (fun i => (i.zero, i.size, i.bytes)) = some (some (.agg #[.slice none 0 0]), 1, 24) := by kernel_rfl
theorem make_rings (n : Nat) (hn : n ≤ 1048576) (w : World) : (Instr.makeSlice 26 (.int .i64 (n : Int)) (.int .i64 (n : Int))).run Tryz.prog w = .ok (.slice (some ⟨w.heap.size, 0, none⟩) n n) (w.alloc (.cells (madeCells #[.slice none 0 0] n) 57)) := by
  obtain ⟨i, hi, hzz⟩ := Option.map_eq_some_iff.1 Tryz.infoRing
  simp only [Prod.mk.injEq] at hzz
  obtain ⟨hz, hs, hb⟩ := hzz
  have hr := run_make (P := Tryz.prog) w 26 57 i (.agg #[.slice none 0 0]) Tryz.underlying26 hi hz .i64 .i64 n n (by omega) (Int.le_refl _) (by rw [hb]; omega) (by omega)
  simp only [Int.toNat_natCast, hs, Value.cells, Nat.mul_one] at hr
  exact hr
/-- So far the row holds what was copied, behind it nothing. -/
def cpR (S : Nat → Nat) (L : Nat → Nat) (c : Nat) (i : Nat) : Value := if i < c then .slice (some ⟨S i, 0, none⟩) (L i) (L i) else .slice none 0 0
set_option maxRecDepth 100000 in
set_option maxHeartbeats 2000000 in
theorem toRingSR_any (ao : Option Addr) (n cap : Nat) (S : Nat → Option Addr × Nat) (L : Nat → Nat) (q : Nat → Ps) (hn : n ≤ 1048576) (hL : ∀ i, i < n → L i ≤ 1048576) (w : World) (hS : RgIn w ao n S L q) : Calls Tryz.prog 8 #[.slice ao n cap] w (fun e w' => ∃ g S', e = .returned (.slice (some ⟨g, 0, none⟩) n n) ∧ RgIn w' (some ⟨g, 0, none⟩) n S' L q ∧ (∀ i, (S' i).2 = L i) ∧ (w.heap.size ≤ g ∧ ∀ i a, i < n → (S' i).1 = some a → w.heap.size ≤ a.block) ∧ g < w'.heap.size ∧ (∀ i, i < n → ∃ gi, (S' i).1 = some ⟨gi, 0, none⟩ ∧ g < gi ∧ w'.rowIs gi 51 (L i * 2) (fun k => .int .i64 (spW (q i) k))) ∧ Below w.heap.size w w') := by
  have MK := make_rings n hn
  have HS : Hid (RgIn w ao n S L q) := hS
  have HL : Hid (∀ i, i < n → L i ≤ 1048576) := hL
  clear hS hL
  go_enter Tryz.func8, Tryz.ntmps8
  go_wp2_with fail
  have R0 := World.rowIs_made w (.slice none 0 0) n 57
  have B0 : Below w.heap.size w (w.alloc (.cells (madeCells #[.slice none 0 0] n) 57)) := (Below.refl _ _).alloc (Nat.le_refl _) _
  generalize w.alloc (.cells (madeCells #[.slice none 0 0] n) 57) = W1 at *
  have hnI : (n : Int) ≤ 1048576 := by omega
  clear MK
  go_loopw [4] (fun i wr => ∃ (c : Nat) (S' : Nat → Nat), c ≤ n ∧ i = .int .i64 c ∧ wr.rowIs w.heap.size 57 n (cpR S' L c) ∧ (∀ j, j < c → w.heap.size < S' j ∧ wr.rowIs (S' j) 51 (L j * 2) (fun i => .int .i64 (spW (q j) i))) ∧ Below w.heap.size w wr) (fun i _ => n - (intOf i).toNat)
  case atStart => exact ⟨0, fun _ => 0, by omega, rfl, R0.congr (fun i _ => by unfold cpR; simp), fun j hj => by omega, B0⟩
  case round =>
    clear R0 B0
    obtain ⟨c, S', hc, rfl, R, hp, HB⟩ := hrel
    have HP : Hid (∀ j, j < c → w.heap.size < S' j ∧ wr.rowIs (S' j) 51 (L j * 2) (fun i => .int .i64 (spW (q j) i))) := hp
    clear hp
    by_cases hcn : c < n
    · obtain ⟨A, off, rfl, hA, hcell, hrow⟩ := HS.out.step HB c hcn
      have hcI : (c : Int) < n := by omega
      have TL := fun w h => toRing_any (S c).1 (L c) (S c).2 (q c) (HL.out c hcn) w h
      have hlr := R.lt
      go_wp2_with fail
      refine (TL _ hrow).mono ?_
      rintro e w1 ⟨g, rfl, hg, RG, hB⟩
      replace R := rows_step R hB
      have HP2 : Hid (∀ j, j < c → w.heap.size < S' j ∧ w1.rowIs (S' j) 51 (L j * 2) (fun i => .int .i64 (spW (q j) i))) := fun j hj => ⟨(HP.out j hj).1, rows_step (HP.out j hj).2 hB⟩
      replace HB := HB.trans (hB.mono HB.size)
      have o0 := R.cell (i := c) (by omega); have f0 := R.frozen c
      have RN : (w1.setCell ⟨w.heap.size, c, none⟩ (.slice (some ⟨g, 0, none⟩) (L c) (L c))).rowIs w.heap.size 57 n (cpR (fun j => if j = c then g else S' j) L (c + 1)) := (R.set c _).congr (fun i hi => by
        unfold cpR
        by_cases h : i = c
        · subst h; simp
        · rcases Nat.lt_or_ge i c with h' | h'
          · rw [if_neg h, if_pos h', if_pos (by omega)]; dsimp only; rw [if_neg h]
          · rw [if_neg h, if_neg (by omega), if_neg (by omega)])
      have HPN : Hid (∀ j, j < c + 1 → w.heap.size < (if j = c then g else S' j) ∧ (w1.setCell ⟨w.heap.size, c, none⟩ (.slice (some ⟨g, 0, none⟩) (L c) (L c))).rowIs (if j = c then g else S' j) 51 (L j * 2) (fun i => .int .i64 (spW (q j) i))) := fun j hj => by
        by_cases h : j = c
        · subst h
          rw [if_pos rfl]
          exact ⟨by omega, RG.setOther (by show g ≠ w.heap.size; omega) _⟩
        · rw [if_neg h]
          have := HP2.out j (by omega)
          exact ⟨this.1, this.2.setOther (by have h2 := this.1; show S' j ≠ w.heap.size; omega) _⟩
      have HN : Below w.heap.size w (w1.setCell ⟨w.heap.size, c, none⟩ (.slice (some ⟨g, 0, none⟩) (L c) (L c))) := Below.setCell HB (Nat.le_refl _) _
      clear hB hcell hrow hA R HB RG HP HP2 TL hlr hg
      go_wp2
      go_roundw
      case rel => exact ⟨c + 1, _, by omega, by go_num, RN, HPN.out, HN⟩
      case measure => simp [intOf]; omega
    · obtain rfl : c = n := by omega
      have LI : Hid (RgIn wr (some ⟨w.heap.size, 0, none⟩) c (fun i => (some ⟨S' i, 0, none⟩, L i)) L q) := fun i hi => by
        refine ⟨w.heap.size, 0, rfl, R.lt, ?_, spIn_row (HP.out i hi).2⟩
        rw [Nat.zero_add, R.cell hi]
        unfold cpR
        rw [if_pos hi]
      have HPB : Hid (∀ i (a : Addr), i < c → (some (⟨S' i, 0, none⟩ : Addr)) = some a → w.heap.size ≤ a.block) := fun i a hi ha => by
        have := (HP.out i hi).1
        cases ha
        exact Nat.le_of_lt this
      have HPR : Hid (∀ i, i < c → ∃ gi, (some (⟨S' i, 0, none⟩ : Addr)) = some ⟨gi, 0, none⟩ ∧ w.heap.size < gi ∧ wr.rowIs gi 51 (L i * 2) (fun k => .int .i64 (spW (q i) k))) := fun i hi => ⟨S' i, rfl, HP.out i hi⟩
      have hgl := R.lt
      clear R HS HP HL
      go_wp2
      go_ret
      exact ⟨_, _, rfl, LI.out, fun _ => rfl, ⟨Nat.le_refl _, HPB.out⟩, hgl, HPR.out, HB⟩
theorem toRingS_any (ao : Option Addr) (n cap : Nat) (S : Nat → Option Addr × Nat) (L : Nat → Nat) (q : Nat → Ps) (hn : n ≤ 1048576) (hL : ∀ i, i < n → L i ≤ 1048576) (w : World) (hS : RgIn w ao n S L q) : Calls Tryz.prog 8 #[.slice ao n cap] w (fun e w' => ∃ g S', e = .returned (.slice (some ⟨g, 0, none⟩) n n) ∧ RgIn w' (some ⟨g, 0, none⟩) n S' L q ∧ (∀ i, (S' i).2 = L i) ∧ (w.heap.size ≤ g ∧ ∀ i a, i < n → (S' i).1 = some a → w.heap.size ≤ a.block) ∧ Below w.heap.size w w') :=
  (toRingSR_any ao n cap S L q hn hL w hS).mono fun _ _ ⟨g, S', h1, h2, h3, h4, _, _, h6⟩ => ⟨g, S', h1, h2, h3, h4, h6⟩
set_option maxRecDepth 100000 in
set_option maxHeartbeats 2000000 in
theorem eqRingS_any (ao bo : Option Addr) (n ca cb : Nat) (S S' : Nat → Option Addr × Nat) (L : Nat → Nat) (q : Nat → Ps) (hn : n ≤ 1048576) (hL : ∀ i, i < n → L i ≤ 1048576) (w : World) (hA : RgIn w ao n S L q) (hC : RgIn w bo n S' L q) : Calls Tryz.prog 11 #[.slice ao n ca, .slice bo n cb] w (BoolP true w) := by
  have HA : Hid (RgIn w ao n S L q) := hA
  have HC : Hid (RgIn w bo n S' L q) := hC
  have HL : Hid (∀ i, i < n → L i ≤ 1048576) := hL
  have hnI : (n : Int) ≤ 1048576 := by omega
  clear hA hC hL
  go_enter Tryz.func11, Tryz.ntmps11
  go_wp2_with fail
  go_loopw [5] (fun i wr => ∃ c : Nat, c ≤ n ∧ i = .int .i64 c ∧ Below w.heap.size w wr) (fun i _ => n - (intOf i).toNat)
  case atStart => exact ⟨0, by omega, rfl, Below.refl _ _⟩
  case round =>
    obtain ⟨c, hc, rfl, HB⟩ := hrel
    by_cases hcn : c < n
    · obtain ⟨A, off, rfl, hA, q0, hra⟩ := HA.out.step HB c hcn
      obtain ⟨B, of2, rfl, hB', r0, hrb⟩ := HC.out.step HB c hcn
      have hcI : (c : Int) < n := by omega
      have EL := fun w h h' => eqRing_any (S c).1 (S' c).1 (L c) (S c).2 (S' c).2 (q c) (HL.out c hcn) w h h'
      have KS : (fun w' => w'.cell? ⟨A, off + c, none⟩ = some (.slice (S c).1 (L c) (S c).2) ∧ w'.cell? ⟨B, of2 + c, none⟩ = some (.slice (S' c).1 (L c) (S' c).2)) wr := ⟨q0, r0⟩
      go_wp2_with fail
      go_region_held3 (fun w' => w'.cell? ⟨A, off + c, none⟩ = some (.slice (S c).1 (L c) (S c).2) ∧ w'.cell? ⟨B, of2 + c, none⟩ = some (.slice (S' c).1 (L c) (S' c).2)) (first | (exact KS) | (exact KS'))
        (first
          | (go_at_call 37; refine (EL _ (by first | exact hra | exact hra.drew) (by first | exact hrb | exact hrb.drew)).mono ?_; rintro e w1 ⟨rfl, hB⟩; have KS' : (fun w' => w'.cell? ⟨A, off + c, none⟩ = some (.slice (S c).1 (L c) (S c).2) ∧ w'.cell? ⟨B, of2 + c, none⟩ = some (.slice (S' c).1 (L c) (S' c).2)) w1 := ⟨(hB.cell (p := ⟨A, _, none⟩) hA).trans q0, (hB.cell (p := ⟨B, _, none⟩) hB').trans r0⟩; (first | (have HB2 := HB.trans (hB.mono HB.size)) | (have HB2 := HB.drew.trans (hB.mono HB.drew.size))); clear hB))
      all_goals clear HB KS q0 r0 hra hrb EL
      all_goals go_wp2
      all_goals go_roundw
      case rel => exact ⟨c + 1, by omega, by go_num, HB2⟩
      case measure => simp [intOf]; omega
    · obtain rfl : c = n := by omega
      clear HA HC HL
      go_wp2
      go_ret
      exact ⟨rfl, HB⟩
/-- What is left of the count, if it is not below 0. -/
def SzR (n : Nat) (L : Nat → Nat) (w : World) (e : Ending) (w' : World) : Prop := ∃ z : Int, e = .returned (.int .i64 z) ∧ -1 ≤ z ∧ z ≤ 1048576 ∧ (0 ≤ z → n ≤ 1048576 ∧ ∀ i, i < n → L i ≤ 1048576) ∧ Below w.heap.size w w'
set_option maxRecDepth 100000 in
set_option maxHeartbeats 2000000 in
theorem szRingS_any (l0 : Int) (h00 : 0 ≤ l0) (h01 : l0 ≤ 1048576) (ao : Option Addr) (n cap : Nat) (S : Nat → Option Addr × Nat) (L : Nat → Nat) (q : Nat → Ps) (hn : n ≤ 9223372036854775807) (hL : ∀ i, i < n → L i ≤ 9223372036854775807) (w : World) (hS : RgIn w ao n S L q) : Calls Tryz.prog 6 #[.slice ao n cap, .int .i64 l0] w (SzR n L w) := by
  have hnI : (n : Int) ≤ 9223372036854775807 := by omega
  by_cases h : (n : Int) ≤ l0
  · have h' : (n : Int) ≤ 1048576 := by omega
    have hw' : IntKind.i64.wrap (l0 - (n : Int)) = l0 - n := by rw [IntKind.wrap_i64]; omega
    have hw0 : 0 ≤ l0 - (n : Int) := by omega
    have HS : Hid (RgIn w ao n S L q) := hS
    have HL : Hid (∀ i, i < n → L i ≤ 9223372036854775807) := hL
    clear hS hL
    go_enter Tryz.func6, Tryz.ntmps6
    go_wp2_with fail
    go_loopw [1, 5] (fun s i wr => ∃ (c : Nat) (l : Int), c ≤ n ∧ i = .int .i64 c ∧ s = .int .i64 l ∧ 0 ≤ l ∧ l ≤ 1048576 ∧ (∀ j, j < c → L j ≤ 1048576) ∧ Below w.heap.size w wr) (fun _ i _ => n - (intOf i).toNat)
    case atStart => exact ⟨0, _, by omega, rfl, rfl, by omega, by omega, fun j hj => by omega, Below.refl _ _⟩
    case round =>
      obtain ⟨c, l, hc, rfl, rfl, l0, l1, hall, HB⟩ := hrel
      have HA : Hid (∀ j, j < c → L j ≤ 1048576) := hall
      clear hall
      by_cases hcn : c < n
      · obtain ⟨A, off, rfl, hA, hcell, -⟩ := HS.out.step HB c hcn
        have hcI : (c : Int) < n := by omega
        have SL := szRing_any (S c).1 (L c) (S c).2 l l0 l1 (HL.out c hcn)
        go_wp2_with fail
        refine (SL _).mono ?_
        rintro e w1 ⟨rfl, hB⟩
        replace HB := HB.trans (hB.mono HB.size)
        clear hB SL hcell hA
        by_cases hl : (L c : Int) ≤ l
        · rw [if_pos hl]
          have hl2 : 0 ≤ l - (L c : Int) := by omega
          go_wp2
          go_roundw
          case rel => exact ⟨c + 1, _, by omega, by go_num, rfl, by omega, by omega, fun j hj => by
            rcases Nat.lt_or_ge j c with h | h
            · exact HA.out j h
            · obtain rfl : j = c := by omega
              omega, HB⟩
          case measure => simp [intOf]; omega
        · rw [if_neg hl]
          go_wp2
          go_ret
          exact ⟨-1, rfl, by omega, by omega, fun h => by omega, HB⟩
      · obtain rfl : c = n := by omega
        clear HS HL
        go_wp2
        go_ret
        exact ⟨l, rfl, by omega, l1, fun _ => ⟨by omega, HA.out⟩, HB⟩
  · have h' : l0 < (n : Int) := by omega
    have hw' : IntKind.i64.wrap (l0 - (n : Int)) = l0 - n := by rw [IntKind.wrap_i64]; omega
    have hw0 : l0 - (n : Int) < 0 := by omega
    clear hS hL
    go_enter Tryz.func6, Tryz.ntmps6
    go_wp2
    go_ret
    exact ⟨-1, rfl, by omega, by omega, fun h => by omega, Below.refl _ _⟩
end Go.Proofs.YteakhlipmmfilaaGreat

/- Whether two rings meet: the program's walk. -/
namespace Go.Proofs.YteakhlipmmfilaaGreat
open Go.RowKit Go.Shelf
attribute [local go_sem] Oper.semAt_some
set_option maxRecDepth 100000 in
set_option maxHeartbeats 8000000 in
theorem meets_any (ao bo : Option Addr) (n cap m cap2 : Nat) (p q : Ps) (hn3 : 3 ≤ n) (hn : n ≤ 12) (hok : ∀ i, i < n → spotOk (p i).1 (p i).2 = true) (hone : OneN n p) (hm3 : 3 ≤ m) (hm : m ≤ 12) (hokq : ∀ i, i < m → spotOk (q i).1 (q i).2 = true) (honeq : OneN m q) (w : World) (hS : SpIn w ao n p) (hSq : SpIn w bo m q) : Calls Tryz.prog 84 #[.agg #[.slice ao n cap], .agg #[.slice bo m cap2]] w (VP (.bool (rmB n p m q)) w) := by
  refine (callsIn_wide (n := 12)).1 ?_
  refine callsIn_of_wp_marks Tryz.func84 rfl trivial ?_ rfl
  simp only [Tryz.ntmps84, List.size_toArray, List.length_cons, List.length_nil, Nat.reduceAdd, Nat.reduceSub, Array.replicate_succ, Array.replicate_zero, List.push_toArray, List.append_toArray, List.nil_append, List.cons_append]
  gi_wp2_with (refine ⟨trivial, ?_⟩; gi_at_call 33; refine (callsIn_wide.2 (sides_any _ _ _ _)).mono ?_; rintro e w' ⟨rfl, rfl⟩)
  have bA := (((Boxed.new w 57 (.slice ao n cap)).alloc (.cells #[.slice bo m cap2] 57)).alloc (.cells #[.bool false] 4)).alloc (.cells #[.slice ao n cap] 57)
  have bQ := ((Boxed.new (w.alloc (.cells #[.slice ao n cap] 57)) 57 (.slice bo m cap2)).alloc (.cells #[.bool false] 4)).alloc (.cells #[.slice ao n cap] 57)
  have bR := (Boxed.new ((w.alloc (.cells #[.slice ao n cap] 57)).alloc (.cells #[.slice bo m cap2] 57)) 4 (.bool false)).alloc (.cells #[.slice ao n cap] 57)
  have bN := Boxed.new (((w.alloc (.cells #[.slice ao n cap] 57)).alloc (.cells #[.slice bo m cap2] 57)).alloc (.cells #[.bool false] 4)) 57 (.slice ao n cap)
  simp only [World.size_alloc] at bQ bR bN
  have hB0 : Below w.heap.size w ((((w.alloc (.cells #[.slice ao n cap] 57)).alloc (.cells #[.slice bo m cap2] 57)).alloc (.cells #[.bool false] 4)).alloc (.cells #[.slice ao n cap] 57)) := ((((Below.refl _ w).alloc (Nat.le_refl _) _).alloc (by simp) _).alloc (by simp; omega) _).alloc (by simp; omega) _
  have hsz : ((((w.alloc (.cells #[.slice ao n cap] 57)).alloc (.cells #[.slice bo m cap2] 57)).alloc (.cells #[.bool false] 4)).alloc (.cells #[.slice ao n cap] 57)).heap.size = w.heap.size + 4 := by simp
  obtain ⟨W0, hW0⟩ : ∃ W0, ((((w.alloc (.cells #[.slice ao n cap] 57)).alloc (.cells #[.slice bo m cap2] 57)).alloc (.cells #[.bool false] 4)).alloc (.cells #[.slice ao n cap] 57)) = W0 := ⟨_, rfl⟩
  rw [hW0] at bA bQ bR bN hB0 hsz ⊢
  clear hW0
  have hS0 : SpB w.heap.size W0 ao n p := (hS.low).keep (fun k hk => hB0.block k hk)
  have hS1 : SpB w.heap.size W0 bo m q := (hSq.low).keep (fun k hk => hB0.block k hk)
  refine wpIn_rangeFunc_ownH rfl (by omega) (gf := 66) (lb := #[.pointer (some ⟨w.heap.size + 1 + 1 + 1, 0, none⟩)]) rfl trivial (enters_of Tryz.func66 (by kernel_rfl) rfl)
    (sides_stops (12 - 1) w.heap.size (w.heap.size + 1 + 1 + 1) ao n cap p hn3 hn hok hone W0 (by omega) (by omega) bN.cell hS0) (fun h k => h.trans k) (KpB.put (by omega) (by omega)) (Below.refl _ _) (fun _ => rfl)
    (fun pre W => (∀ i ∈ pre, ∀ k, k < m → kdX n p m q i.1 k = 0) ∧ Below W0.heap.size W0 W)
    (fun c pre W => ((c = .ret ∧ ∃ i ∈ pre, ∃ k, k < m ∧ kdX n p m q i.1 k ≠ 0) ∧ Boxed W (w.heap.size + 1 + 1) 4 (.bool true)) ∧ Below w.heap.size w W)
    (OwnFrom.and (ownFrom_pure _ _) (ownFrom_below (Nat.le_refl _) (Nat.le_refl _)))
    (fun c => OwnFrom.and (OwnFrom.and (ownFrom_pure _ _) (Own.from (boxed_own _ _ _) _)) (ownFrom_below (Nat.le_refl _) (by omega)))
    ⟨by simp, Below.refl _ _⟩
    (fun x a' W => ∃ Bs, BoxV W Bs 53 [.int .i64 (sdA n p x.1).1, .int .i64 (sdA n p x.1).2.1, .int .i64 (sdA n p x.1).2.2.1, .int .i64 (sdA n p x.1).2.2.2] ∧ a' = { tmps := #[.agg #[.slice ao n cap], .agg #[.slice bo m cap2], .pointer (some ⟨w.heap.size, 0, none⟩), .pointer (some ⟨w.heap.size + 1, 0, none⟩), .pointer (some ⟨w.heap.size + 1 + 1, 0, none⟩), undef, .pointer (some ⟨Bs, 0, none⟩), undef, undef, undef, undef, undef, .agg #[.slice ao n cap], .func (.func 66) #[] #[.pointer (some ⟨w.heap.size + 1 + 1 + 1, 0, none⟩)], .int .i64 (x.1 : Int), Sg (sdA n p x.1).1 (sdA n p x.1).2.1 (sdA n p x.1).2.2.1 (sdA n p x.1).2.2.2, undef, undef, undef, undef, undef, undef, undef, undef, undef, undef, undef, undef, undef], defers := [] })
    (fun x a' _ X Y row hs hg hr => by obtain ⟨Bs, e4, e5⟩ := hs; exact ⟨Bs, boxV_own Bs 53 (fun (_ : Unit) => [.int .i64 (sdA n p x.1).1, .int .i64 (sdA n p x.1).2.1, .int .i64 (sdA n p x.1).2.2.1, .int .i64 (sdA n p x.1).2.2.2]) () X Y row e4 hg (fun r e => (hr r e).2), e5⟩)
    ?assign ?body ?done ?stop
  case assign =>
    rintro l pre x W K ⟨hp, hB1⟩ hK
    unfold enS
    gi_wp2
    have hB2 : Below W.heap.size W (W.alloc (.cells #[.int .i64 (sdA n p x.1).1, .int .i64 (sdA n p x.1).2.1, .int .i64 (sdA n p x.1).2.2.1, .int .i64 (sdA n p x.1).2.2.2] 53)) := (Below.refl _ W).alloc (Nat.le_refl _) _
    have hsW := hB1.size
    have b2 := BoxV.new W 53 [.int .i64 (sdA n p x.1).1, .int .i64 (sdA n p x.1).2.1, .int .i64 (sdA n p x.1).2.2.1, .int .i64 (sdA n p x.1).2.2.2]
    exact hK _ _ (below_keeps hB2) (KpB.of hB2 (by omega) (by omega)) ⟨hp, hB1.trans (hB2.mono hB1.size)⟩ ⟨_, b2, rfl⟩
  case body =>
    rintro l pre x a' W hl ⟨r, hr⟩ ⟨hp, hB1⟩ ⟨Bs, bS, rfl⟩ hlt
    have bQ1 := boxed_step bQ hB1
    have cQ := bQ1.cell
    have h1' : 1 ≤ 12 - 1 - 1 := by omega
    gi_wp2_with (refine ⟨trivial, ?_⟩; gi_at_call 33; refine (CallsIn.inRound l (callsIn_wide.2 (sides_any _ _ _ _))).mono ?_; rintro e w' ⟨rfl, rfl⟩)
    have hsW := hB1.size
    have bN1 := Boxed.new W 57 (.slice bo m cap2)
    have hr' : (W.alloc (.cells #[.slice bo m cap2] 57)).heap[l]? = some (.loop r) := (Below.heap_alloc W _ l (Array.getElem?_eq_some_iff.1 hr).1).trans hr
    have hBR : Below W.heap.size W (W.alloc (.cells #[.slice bo m cap2] 57)) := (Below.refl _ W).alloc (Nat.le_refl _) _
    have hSW : SpB w.heap.size (W.alloc (.cells #[.slice bo m cap2] 57)) bo m q := hS1.keep (fun k hk => (hBR.block k (by omega)).trans (hB1.block k (by omega)))
    have hbR := boxed_step bR hB1
    have hxn := x.2
    have hs1 : (W.alloc (.cells #[.slice bo m cap2] 57)).heap.size = W.heap.size + 1 := by simp
    obtain ⟨W1, hW1⟩ : ∃ W1, W.alloc (.cells #[.slice bo m cap2] 57) = W1 := ⟨_, rfl⟩
    rw [hW1] at bN1 hr' hBR hSW hs1 ⊢
    clear hW1
    refine wpIn_rangeFunc_ownN (l₀ := l) (r₀ := r) rfl hr' h1' (gf := 66) (lb := #[.pointer (some ⟨W.heap.size, 0, none⟩)]) rfl trivial (enters_of Tryz.func66 (by kernel_rfl) rfl)
      ((sides_stops (12 - 1 - 1 - 1) w.heap.size W.heap.size bo m cap2 q hm3 hm hokq honeq W1 (by omega) (by omega) bN1.cell hSW).inRound l) (fun h k => h.trans k) (KpB.put (by omega) (by omega)) (Below.refl _ _) (fun _ => rfl)
      (fun pre' W' => (∀ y ∈ pre', kdX n p m q x.1 y.1 = 0) ∧ Below W1.heap.size W1 W')
      (fun c pre' W' => ((c = .ret ∧ ∃ y ∈ pre', kdX n p m q x.1 y.1 ≠ 0) ∧ Boxed W' (w.heap.size + 1 + 1) 4 (.bool true)) ∧ Below w.heap.size W W' ∧ KeepsFrom W0.heap.size W W')
      (OwnFrom.and (ownFrom_pure _ _) (ownFrom_below (Nat.le_refl _) (Nat.le_refl _)))
      (fun c => OwnFrom.and (OwnFrom.and (ownFrom_pure _ _) (Own.from (boxed_own _ _ _) _)) (OwnFrom.and (ownFrom_below (by omega) (by omega)) (ownFrom_keepsFrom (by omega))))
      ⟨by simp, Below.refl _ _⟩
      (fun y a'' W' => ∃ Bt, BoxV W' Bt 53 [.int .i64 (sdA m q y.1).1, .int .i64 (sdA m q y.1).2.1, .int .i64 (sdA m q y.1).2.2.1, .int .i64 (sdA m q y.1).2.2.2] ∧ a'' = { tmps := #[.agg #[.slice ao n cap], .agg #[.slice bo m cap2], .pointer (some ⟨w.heap.size, 0, none⟩), .pointer (some ⟨w.heap.size + 1, 0, none⟩), .pointer (some ⟨w.heap.size + 1 + 1, 0, none⟩), undef, .pointer (some ⟨Bs, 0, none⟩), undef, .pointer (some ⟨Bt, 0, none⟩), undef, undef, undef, .agg #[.slice ao n cap], .func (.func 66) #[] #[.pointer (some ⟨w.heap.size + 1 + 1 + 1, 0, none⟩)], .int .i64 (x.1 : Int), Sg (sdA n p x.1).1 (sdA n p x.1).2.1 (sdA n p x.1).2.2.1 (sdA n p x.1).2.2.2, .agg #[.slice bo m cap2], .func (.func 66) #[] #[.pointer (some ⟨W.heap.size, 0, none⟩)], .int .i64 (y.1 : Int), Sg (sdA m q y.1).1 (sdA m q y.1).2.1 (sdA m q y.1).2.2.1 (sdA m q y.1).2.2.2, undef, undef, undef, undef, undef, undef, undef, undef, undef], defers := [] })
      (fun y a'' _ X Y row hs hg hrw => by obtain ⟨Bt, e4, e5⟩ := hs; exact ⟨Bt, boxV_own Bt 53 (fun (_ : Unit) => [.int .i64 (sdA m q y.1).1, .int .i64 (sdA m q y.1).2.1, .int .i64 (sdA m q y.1).2.2.1, .int .i64 (sdA m q y.1).2.2.2]) () X Y row e4 hg (fun r e => (hrw r e).2), e5⟩)
      ?assign2 ?body2 ?done2 ?stop2
    case assign2 =>
      rintro l2 pre' y W' K ⟨hq, hBW⟩ hK
      unfold enS
      gi_wp2
      have hB2 : Below W'.heap.size W' (W'.alloc (.cells #[.int .i64 (sdA m q y.1).1, .int .i64 (sdA m q y.1).2.1, .int .i64 (sdA m q y.1).2.2.1, .int .i64 (sdA m q y.1).2.2.2] 53)) := (Below.refl _ W').alloc (Nat.le_refl _) _
      have hsW2 := hBW.size
      have b2 := BoxV.new W' 53 [.int .i64 (sdA m q y.1).1, .int .i64 (sdA m q y.1).2.1, .int .i64 (sdA m q y.1).2.2.1, .int .i64 (sdA m q y.1).2.2.2]
      exact hK _ _ (below_keeps hB2) (KpB.of hB2 (by omega) (by omega)) ⟨hq, hBW.trans (hB2.mono hBW.size)⟩ ⟨_, b2, rfl⟩
    case body2 =>
      rintro l2 pre' y a'' W' _ _ ⟨hq, hBW⟩ ⟨Bt, bT, rfl⟩ _
      have hBX : Below W.heap.size W W' := hBR.trans (hBW.mono hBR.size)
      have bS2 := (bS.step hBX).blk
      have bT2 := bT.blk
      have bR2 := boxed_step hbR hBX
      have s0' := bS2.c 0 rfl; have s1' := bS2.c 1 rfl; have s2' := bS2.c 2 rfl; have s3' := bS2.c 3 rfl
      have t0' := bT2.c 0 rfl; have t1' := bT2.c 1 rfl; have t2' := bT2.c 2 rfl; have t3' := bT2.c 3 rfl
      have hsX := hBW.size
      obtain ⟨i1, i2, i3, i4⟩ := in1_seg (side_ok hok hone hn3 x.2)
      obtain ⟨j1, j2, j3, j4⟩ := in1_seg (side_ok hokq honeq hm3 y.2)
      obtain ⟨r0, r1, r2, r3, r4, r5, r6, r7, r8, r9, r10, r11, s0, s1, s2, s3, s4, s5, s6, s7, s8, s9, s10, s11, hW12⟩ := meetW_12 (sdA n p x.1).1 (sdA n p x.1).2.1 (sdA n p x.1).2.2.1 (sdA n p x.1).2.2.2 (sdA m q y.1).1 (sdA m q y.1).2.1 (sdA m q y.1).2.2.1 (sdA m q y.1).2.2.2
      have MT := meet_det (sdA n p x.1).1 (sdA n p x.1).2.1 (sdA n p x.1).2.2.1 (sdA n p x.1).2.2.2 (sdA m q y.1).1 (sdA m q y.1).2.1 (sdA m q y.1).2.2.1 (sdA m q y.1).2.2.2 i1 i2 i3 i4 j1 j2 j3 j4
      rw [hW12] at MT
      have hkd : kndZ (sdA n p x.1).1 (sdA n p x.1).2.1 (sdA n p x.1).2.2.1 (sdA n p x.1).2.2.2 (sdA m q y.1).1 (sdA m q y.1).2.1 (sdA m q y.1).2.2.1 (sdA m q y.1).2.2.2 = kdX n p m q x.1 y.1 := rfl
      rw [hkd] at MT
      clear i1 i2 i3 i4 j1 j2 j3 j4 hW12 hkd
      generalize hzk : kdX n p m q x.1 y.1 = zk at *
      by_cases hz0 : zk = 0
      · have e1 : (zk != 0) = false := by simp [hz0]
        gi_wp2_with (refine ⟨trivial, ?_⟩; gi_at_call 86; refine (CallsIn.inRound l2 (CallsIn.inRound l (callsIn_wide.2 (MT _)))).mono ?_; rintro e v1 ⟨rfl, hBm⟩)
        have hBN : Below W'.heap.size W' ((v1.alloc (.cells #[.int .u64 r0, .int .u64 r1, .int .u64 r2, .int .u64 r3, .int .u64 r4, .int .u64 r5, .int .u64 r6, .int .u64 r7, .int .u64 r8, .int .u64 r9, .int .u64 r10, .int .u64 r11] 44)).alloc (.cells #[.int .u64 s0, .int .u64 s1, .int .u64 s2, .int .u64 s3, .int .u64 s4, .int .u64 s5, .int .u64 s6, .int .u64 s7, .int .u64 s8, .int .u64 s9, .int .u64 s10, .int .u64 s11] 44)) := (hBm.alloc hBm.size _).alloc (Nat.le_trans hBm.size (by simp)) _
        refine ⟨below_keeps hBN, KpB.of hBN (by omega) (by omega), fun z hz => ?_, hBW.trans (hBN.mono hBW.size)⟩
        rcases List.mem_append.1 hz with h | h
        · exact hq z h
        · simp at h
          subst h
          rw [hzk, hz0]
      · have e1 : (zk != 0) = true := by simp [hz0]
        gi_wp2_with (refine ⟨trivial, ?_⟩; gi_at_call 86; refine (CallsIn.inRound l2 (CallsIn.inRound l (callsIn_wide.2 (MT _)))).mono ?_; rintro e v1 ⟨rfl, hBm⟩; have hBN : Below W'.heap.size W' ((v1.alloc (.cells #[.int .u64 r0, .int .u64 r1, .int .u64 r2, .int .u64 r3, .int .u64 r4, .int .u64 r5, .int .u64 r6, .int .u64 r7, .int .u64 r8, .int .u64 r9, .int .u64 r10, .int .u64 r11] 44)).alloc (.cells #[.int .u64 s0, .int .u64 s1, .int .u64 s2, .int .u64 s3, .int .u64 s4, .int .u64 s5, .int .u64 s6, .int .u64 s7, .int .u64 s8, .int .u64 s9, .int .u64 s10, .int .u64 s11] 44)) := (hBm.alloc hBm.size _).alloc (Nat.le_trans hBm.size (by simp)) _; have bR3 := boxed_step bR2 hBN; have cR3 := bR3.cell; have fR3 := bR3.frozen)
        have hXN := hBX.trans (hBN.mono hBX.size)
        exact ⟨(below_keeps hBN).trans ((KeepsOthers.setCell _ _ _).from _), ⟨⟨⟨rfl, y, List.mem_append.2 (.inr (by simp)), by rw [hzk]; exact hz0⟩, bR3.set _⟩, (hXN.mono (show w.heap.size ≤ W.heap.size by omega)).setCell (p := ⟨w.heap.size + 1 + 1, 0, none⟩) (by simp; omega) _, (below_keeps hXN).trans ((KeepsOthers.setCell _ _ _).from _)⟩⟩
    case done2 =>
      rintro ys' W' rfl ⟨hq, hBW⟩
      have hBX : Below W.heap.size W W' := hBR.trans (hBW.mono hBR.size)
      gi_wp2
      refine ⟨below_keeps hBX, KpB.of hBX (by omega) (by omega), fun i hi => ?_, hB1.trans (hBX.mono hB1.size)⟩
      rcases List.mem_append.1 hi with h | h
      · exact hp i h
      · simp at h
        subst h
        exact fun k hk => hq ⟨k, hk⟩ (List.mem_finRange _)
    case stop2 =>
      rintro c pre' W' hpre ⟨⟨⟨rfl, y, hy, hk⟩, bR2⟩, hBW, hKF⟩
      gi_wp2
      exact ⟨hKF, ⟨⟨rfl, x, List.mem_append.2 (.inr (by simp)), y.1, y.2, hk⟩, bR2⟩, (hB0.trans (hB1.mono (by omega))).trans hBW⟩
  case done =>
    rintro D zs W hD rfl ⟨hp, hB1⟩ hK
    have bR1 := boxed_step bR hB1
    have cR := bR1.cell
    have fR := bR1.frozen
    gi_wp2
    have hK' := (KeepsOthers.setCell W ⟨w.heap.size + 1 + 1, 0, none⟩ (.bool false)).same D _ hK rfl
    refine ⟨by simp, .inl ⟨_, _, rfl, run_takeDeferred hK', ?_⟩⟩
    have hc5 := cell_kept (bR1.set (.bool false)).cell (grownBy_putObj' _ D (.deferred none)) (fun r e => by cases e; exact ⟨_, hK', rfl⟩)
    have hBW : Below w.heap.size w W := hB0.trans (hB1.mono (by omega))
    refine ⟨.bool false, ?_, by unfold rmB; rw [decide_eq_false (fun h => h (fun i hi k hk => hp ⟨i, hi⟩ (List.mem_finRange _) k hk))], (hBW.setCell (p := ⟨w.heap.size + 1 + 1, 0, none⟩) (by simp; omega) _).trans (belowK_b (w := w) (Nat.le_refl _) _ D _ _ (by omega) hK' rfl rfl)⟩
    simp [results, Tryz.results84, go_sem, hc5]
  case stop =>
    rintro D c pre W hD hpre ⟨⟨⟨rfl, i, hi, k, hk, hbd⟩, bR1⟩, hB1⟩ hK
    have cR := bR1.cell
    gi_wp2
    refine ⟨by simp, .inl ⟨_, _, rfl, run_takeDeferred hK, ?_⟩⟩
    have hc5 := cell_kept bR1.cell (grownBy_putObj' _ D (.deferred none)) (fun r e => by cases e; exact ⟨_, hK, rfl⟩)
    have hd : rmB n p m q = true := decide_eq_true (fun h => hbd (h i.1 i.2 k hk))
    refine ⟨.bool true, ?_, by rw [hd], hB1.trans (belowK_b (w := w) (Nat.le_refl _) _ D _ _ (by omega) hK rfl rfl)⟩
    simp [results, Tryz.results84, go_sem, hc5]
end Go.Proofs.YteakhlipmmfilaaGreat

/- What is at fault in a layer: the reckoning, and the program's walk. -/
namespace Go.Proofs.YteakhlipmmfilaaGreat
open Go.RowKit
/-- How many spots the first rings have together. -/
def sumR (L : Nat → Nat) : Nat → Nat
  | 0 => 0
  | i + 1 => sumR L i + L i
theorem sumR_le {L : Nat → Nat} {n : Nat} (hL : ∀ i, i < n → L i ≤ 1048576) : ∀ c, c ≤ n → sumR L c ≤ c * 1048576
  | 0, _ => by simp [sumR]
  | c + 1, h => by
    have := sumR_le hL c (by omega)
    have := hL c (by omega)
    rw [sumR]
    omega
/-- The first place at which something holds. -/
def firstP (P : Nat → Bool) (n : Nat) : Option Nat := (List.range n).find? P
theorem firstP_some {P : Nat → Bool} {n c : Nat} (hc : c < n) (h : P c = true) (ha : ∀ j, j < c → P j = false) : firstP P n = some c := by
  unfold firstP
  rw [List.find?_range_eq_some]
  exact ⟨h, by simpa using hc, fun j hj => by simp [ha j hj]⟩
theorem firstP_none {P : Nat → Bool} {n : Nat} (ha : ∀ j, j < n → P j = false) : firstP P n = none := by
  unfold firstP
  rw [List.find?_eq_none]
  intro x hx
  rw [ha x (by simpa using hx)]
  simp
/-- Whether the ring at a place meets one ahead of it. -/
def mtA (L : Nat → Nat) (q : Nat → Ps) (i : Nat) : Bool := (List.range i).any fun k => rmB (L i) (q i) (L k) (q k)
theorem mtA_true {L : Nat → Nat} {q : Nat → Ps} {i k : Nat} (hk : k < i) (h : rmB (L i) (q i) (L k) (q k) = true) : mtA L q i = true := List.any_eq_true.2 ⟨k, by simpa using hk, h⟩
theorem mtA_false {L : Nat → Nat} {q : Nat → Ps} {i : Nat} (h : ∀ k, k < i → rmB (L i) (q i) (L k) (q k) = false) : mtA L q i = false := List.any_eq_false.2 fun k hk => by rw [h k (by simpa using hk)]; simp
/-- Of right rings: the first one that meets one ahead of it. -/
def mfV (n : Nat) (L : Nat → Nat) (q : Nat → Ps) : Int × Int := match firstP (mtA L q) n with
  | some i => (3, i)
  | none => (0, 0)
/-- What is at fault in a layer, and where. -/
def lyF (n : Nat) (L : Nat → Nat) (q : Nat → Ps) : Int × Int :=
  if 6 < n then (1, 0) else if 20 < sumR L n then (2, 0) else
    match firstP (fun i => decide (rgF (L i) (q i) ≠ 0)) n with
    | some i => (10 + rgF (L i) (q i), i)
    | none => mfV n L q
theorem rgF_in (n : Nat) (p : Ps) : 0 ≤ rgF n p ∧ rgF n p ≤ 5 := by
  unfold rgF
  repeat' split
  all_goals omega
def TwoL (x : Int × Int) (w : World) : Ending → World → Prop := VP (.tuple #[.int .i64 x.1, .int .i64 x.2]) w
set_option maxRecDepth 100000 in
set_option maxHeartbeats 4000000 in
theorem countSpots_any (ao : Option Addr) (n cap : Nat) (S : Nat → Option Addr × Nat) (L : Nat → Nat) (q : Nat → Ps) (hn : n ≤ 6) (hL : ∀ i, i < n → L i ≤ 1048576) (w : World) (hS : RgIn w ao n S L q) : Calls Tryz.prog 43 #[.slice ao n cap] w (VP (.int .i64 (sumR L n : Nat)) w) := by
  have HS : Hid (RgIn w ao n S L q) := hS
  have HL : Hid (∀ i, i < n → L i ≤ 1048576) := hL
  have hnI : (n : Int) ≤ 6 := by omega
  clear hS hL
  go_enter Tryz.func43, Tryz.ntmps43
  go_wp2_with fail
  go_loopw [3, 8] (fun s i wr => ∃ c : Nat, c ≤ n ∧ i = .int .i64 c ∧ s = .int .i64 (sumR L c : Nat) ∧ Below w.heap.size w wr) (fun _ i _ => n - (intOf i).toNat)
  case atStart => exact ⟨0, by omega, rfl, rfl, Below.refl _ _⟩
  case round =>
    obtain ⟨c, hc, rfl, rfl, HB⟩ := hrel
    by_cases hcn : c < n
    · obtain ⟨A, off, rfl, hA, q0, -⟩ := HS.out.step HB c hcn
      have hcI : (c : Int) < n := by omega
      have s1 := sumR_le HL.out c hc
      have s2 := HL.out c hcn
      have hw : IntKind.i64.wrap (((sumR L c : Nat) : Int) + (L c : Int)) = ((sumR L (c + 1) : Nat) : Int) := by rw [IntKind.wrap_i64, sumR]; omega
      have HBN : Below w.heap.size w (wr.alloc (.cells #[.slice (S c).1 (L c) (S c).2] 57)) := HB.alloc HB.size _
      clear s1 s2 HB
      go_wp2
      go_roundw
      case rel => exact ⟨c + 1, by omega, by go_num, rfl, HBN⟩
      case measure => simp [intOf]; omega
    · obtain rfl : c = n := by omega
      clear HS HL
      go_wp2
      go_ret
      exact ⟨rfl, HB⟩
set_option maxRecDepth 100000 in
set_option maxHeartbeats 8000000 in
theorem meetingFault_any (ao : Option Addr) (n cap : Nat) (S : Nat → Option Addr × Nat) (L : Nat → Nat) (q : Nat → Ps) (hn : n ≤ 6) (hcap : n ≤ cap) (hcap2 : cap ≤ 9223372036854775807) (hR : ∀ i, i < n → RgOk (L i) (q i)) (w : World) (hS : RgIn w ao n S L q) : Calls Tryz.prog 45 #[.slice ao n cap] w (TwoL (mfV n L q) w) := by
  have HS : Hid (RgIn w ao n S L q) := hS
  have HR : Hid (∀ i, i < n → RgOk (L i) (q i)) := hR
  have hnI : (n : Int) ≤ 6 := by omega
  have hcI1 : (n : Int) ≤ cap := by omega
  have hcI2 : (cap : Int) ≤ 9223372036854775807 := by omega
  clear hS hR
  go_enter Tryz.func45, Tryz.ntmps45
  go_wp2_with fail
  go_step3
  go_wp2_with fail
  go_step3
  go_wp2_with fail
  go_loopw [4, 5, 12] (fun a b i wr => ∃ c : Nat, c ≤ n ∧ i = .int .i64 c ∧ a = .int .i64 0 ∧ b = .int .i64 0 ∧ (∀ j, j < c → mtA L q j = false) ∧ Below w.heap.size w wr) (fun _ _ i _ => n - (intOf i).toNat)
  case atStart => exact ⟨0, by omega, rfl, rfl, rfl, fun j hj => by omega, Below.refl _ _⟩
  case round =>
    obtain ⟨c, hc, rfl, rfl, rfl, hall, HB⟩ := hrel
    have HA : Hid (∀ j, j < c → mtA L q j = false) := hall
    clear hall
    by_cases hcn : c < n
    · obtain ⟨A, off, rfl, hA, q0, hsp⟩ := HS.out.step HB c hcn
      have hcI : (c : Int) < n := by omega
      have hcc : (c : Int) ≤ cap := by omega
      have hc0 : (0 : Int) ≤ c := by omega
      have hB1 := (Below.refl wr.heap.size wr).alloc (Nat.le_refl _) (.cells #[.slice (S c).1 (L c) (S c).2] 57)
      have B1 := Blk.new wr [.slice (S c).1 (L c) (S c).2] 57 rfl
      have HBo := HB.trans (hB1.mono HB.size)
      clear HB hsp hA
      go_wp2_with fail
      clear q0 hB1
      generalize wr.alloc (.cells #[.slice (S c).1 (L c) (S c).2] 57) = W4 at *
      generalize wr.heap.size = gr at *
      go_loopw [4, 5, 21] (fun a b i wr => ∃ d : Nat, d ≤ c ∧ i = .int .i64 d ∧ a = .int .i64 0 ∧ b = .int .i64 0 ∧ (∀ k, k < d → rmB (L c) (q c) (L k) (q k) = false) ∧ Below W4.heap.size W4 wr) (fun _ _ i _ => c - (intOf i).toNat)
      case atStart => exact ⟨0, by omega, rfl, rfl, rfl, fun j hj => by omega, Below.refl _ _⟩
      case round =>
        rename_i hrel
        obtain ⟨d, hd, rfl, rfl, rfl, hall, HB⟩ := hrel
        have HE : Hid (∀ k, k < d → rmB (L c) (q c) (L k) (q k) = false) := hall
        clear hall
        have HB2 := HBo.trans (HB.mono HBo.size)
        by_cases hdn : d < c
        · have hdI : (d : Int) < c := by omega
          obtain ⟨A', off', hao, hA, q0, hsp⟩ := HS.out.step HB2 d (by omega)
          obtain ⟨rfl, rfl⟩ : A = A' ∧ off = off' := by simpa using hao
          have hsc : SpIn wr (S c).1 (L c) (q c) := by
            obtain ⟨_, _, _, _, _, h⟩ := HS.out.step HB2 c hcn
            exact h
          have hB3 := (Below.refl wr.heap.size wr).alloc (Nat.le_refl _) (.cells #[.slice (S d).1 (L d) (S d).2] 57)
          have B2 := (B1.step HB).step hB3
          have b1 := B2.c 0 rfl
          have b3 := (Blk.new wr [.slice (S d).1 (L d) (S d).2] 57 rfl).c 0 rfl
          replace hsc := hsc.step hB3
          replace hsp := hsp.step hB3
          have r1 := HR.out c hcn
          have r2 := HR.out d (by omega)
          have MM := fun w h k => meets_any (S c).1 (S d).1 (L c) (S c).2 (L d) (S d).2 (q c) (q d) r1.h3 r1.h12 r1.ok r1.one r2.h3 r2.h12 r2.ok r2.one w h k
          have HBN := HB.trans (hB3.mono HB.size)
          clear hA hao r1 r2 HB2 HB hB3 B2
          go_upto_region 8 with fail
          clear q0
          generalize wr.alloc (.cells #[.slice (S d).1 (L d) (S d).2] 57) = W5 at *
          generalize wr.heap.size = gd at *
          go_wp2_with fail
          refine (MM _ hsc hsp).mono ?_
          rintro e w1 ⟨rfl, hB⟩
          replace HBN := HBN.trans (hB.mono HBN.size)
          clear hB hsc hsp MM b1 b3
          cases hk : rmB (L c) (q c) (L d) (q d)
          · have HK : Hid (rmB (L c) (q c) (L d) (q d) = false) := hk
            clear hk
            go_wp2
            go_roundw
            case rel => exact ⟨d + 1, by omega, by go_num, rfl, rfl, fun k hk => by
              rcases Nat.lt_or_ge k d with h | h
              · exact HE.out k h
              · obtain rfl : k = d := by omega
                exact HK.out, HBN⟩
            case measure => simp [intOf]; omega
          · have HO : Hid (mfV n L q = (3, (c : Int))) := by
              show _ = _
              unfold mfV
              rw [firstP_some hcn (mtA_true hdn hk) HA.out]
            have HBF := HBo.trans (HBN.mono HBo.size)
            clear hk HBN HBo
            go_wp2
            go_ret2
            exact ⟨by rw [HO.out]; rfl, HBF⟩
        · obtain rfl : d = c := by omega
          have HBN := HBo.trans (HB.mono HBo.size)
          have HM : Hid (mtA L q d = false) := mtA_false HE.out
          clear HBo HB B1 HB2
          go_wp2
          go_roundw
          case rel => exact ⟨d + 1, by omega, by go_num, rfl, rfl, fun j hj => by
            rcases Nat.lt_or_ge j d with h | h
            · exact HA.out j h
            · obtain rfl : j = d := by omega
              exact HM.out, HBN⟩
          case measure => simp [intOf]; omega
    · obtain rfl : c = n := by omega
      have HO : Hid (mfV c L q = (0, 0)) := by
        show _ = _
        unfold mfV
        rw [firstP_none HA.out]
      clear HS HR
      go_wp2
      go_ret2
      exact ⟨by rw [HO.out]; rfl, HB⟩
set_option maxRecDepth 100000 in
set_option maxHeartbeats 8000000 in
theorem implLayerFault_any (ao : Option Addr) (n cap : Nat) (S : Nat → Option Addr × Nat) (L : Nat → Nat) (q : Nat → Ps) (hn : n ≤ 1048576) (hcap : n ≤ cap) (hcap2 : cap ≤ 9223372036854775807) (hL : ∀ i, i < n → L i ≤ 1048576) (hC : ∀ i, i < n → L i ≤ (S i).2 ∧ (S i).2 ≤ 9223372036854775807) (w : World) (hS : RgIn w ao n S L q) : Calls Tryz.prog 18 #[.slice ao n cap] w (TwoL (lyF n L q) w) := by
  have hnI : (n : Int) ≤ 1048576 := by omega
  by_cases h6 : 6 < n
  · have HO : Hid (lyF n L q = (1, 0)) := by show _ = _; unfold lyF; rw [if_pos h6]
    have h6I : (6 : Int) < n := by omega
    clear hS hL hC
    go_enter Tryz.func18, Tryz.ntmps18
    go_wp2
    go_ret2
    exact ⟨by rw [HO.out]; rfl, Below.refl _ _⟩
  have h6I : (n : Int) ≤ 6 := by omega
  have CS := fun w h => countSpots_any ao n cap S L q (by omega) hL w h
  have HS : Hid (RgIn w ao n S L q) := hS
  have HL : Hid (∀ i, i < n → L i ≤ 1048576) := hL
  have HC : Hid (∀ i, i < n → L i ≤ (S i).2 ∧ (S i).2 ≤ 9223372036854775807) := hC
  have hz := sumR_le hL n (Nat.le_refl _)
  have hzI : ((sumR L n : Nat) : Int) ≤ 6291456 := by omega
  clear hS hL hC hz
  go_enter Tryz.func18, Tryz.ntmps18
  go_wp2_with fail
  refine (CS _ HS.out).mono ?_
  rintro e w1 ⟨rfl, hB⟩
  have HB1 := hB
  clear hB CS
  by_cases h20 : 20 < sumR L n
  · have HO : Hid (lyF n L q = (2, 0)) := by show _ = _; unfold lyF; rw [if_neg h6, if_pos h20]
    have h20I : (20 : Int) < (sumR L n : Nat) := by omega
    clear HS HL HC
    go_wp2
    go_ret2
    exact ⟨by rw [HO.out]; rfl, HB1⟩
  have h20I : ((sumR L n : Nat) : Int) ≤ 20 := by omega
  go_wp2_with fail
  go_loopw [15] (fun i wr => ∃ c : Nat, c ≤ n ∧ i = .int .i64 c ∧ (∀ j, j < c → rgF (L j) (q j) = 0) ∧ Below w.heap.size w wr) (fun i _ => n - (intOf i).toNat)
  case atStart => exact ⟨0, by omega, rfl, fun j hj => by omega, HB1⟩
  case round =>
    clear HB1
    obtain ⟨c, hc, rfl, hall, HB⟩ := hrel
    have HA : Hid (∀ j, j < c → rgF (L j) (q j) = 0) := hall
    clear hall
    by_cases hcn : c < n
    · obtain ⟨A, off, rfl, hA, q0, hsp⟩ := HS.out.step HB c hcn
      have hcI : (c : Int) < n := by omega
      have hB1 := (Below.refl wr.heap.size wr).alloc (Nat.le_refl _) (.cells #[.slice (S c).1 (L c) (S c).2] 57)
      replace hsp := hsp.step hB1
      have HBN := HB.trans (hB1.mono HB.size)
      have RF := fun w h => implRingFault_any (S c).1 (L c) (S c).2 (q c) (HL.out c hcn) (HC.out c hcn).1 (HC.out c hcn).2 w h
      have hin := rgF_in (L c) (q c)
      have hrz : Hid (rgF (L c) (q c) = 0 ∨ rgF (L c) (q c) ≠ 0) := Decidable.em _
      have HFs : Hid (rgF (L c) (q c) ≠ 0 → lyF n L q = (10 + rgF (L c) (q c), (c : Int))) := fun hk => by
        unfold lyF
        rw [if_neg h6, if_neg h20, firstP_some (P := fun i => decide (rgF (L i) (q i) ≠ 0)) hcn (decide_eq_true hk) (fun j hj => decide_eq_false (fun h => h (HA.out j hj)))]
      have HFz : Hid (rgF (L c) (q c) = 0 → ∀ j, j < c + 1 → rgF (L j) (q j) = 0) := fun hk j hj => by
        rcases Nat.lt_or_ge j c with h | h
        · exact HA.out j h
        · obtain rfl : j = c := by omega
          exact hk
      clear hA HB hB1
      go_wp2_with fail
      generalize wr.alloc (.cells #[.slice (S c).1 (L c) (S c).2] 57) = W4 at *
      refine (RF _ hsp).mono ?_
      rintro e w2 ⟨rfl, hB⟩
      replace HBN := HBN.trans (hB.mono HBN.size)
      clear hB RF hsp q0
      generalize rgF (L c) (q c) = z at *
      by_cases hz : z = 0
      · subst hz
        go_wp2
        go_roundw
        case rel => exact ⟨c + 1, by omega, by go_num, HFz.out (by trivial), HBN⟩
        case measure => simp [intOf]; omega
      · have hz2 : (z != 0) = true := by simp [hz]
        have HO : Hid (lyF n L q = (10 + z, (c : Int))) := HFs.out hz
        have hw : IntKind.i64.wrap (10 + z) = 10 + z := by rw [IntKind.wrap_i64]; omega
        clear HFs HFz hrz hin
        go_wp2
        go_ret2
        exact ⟨by rw [HO.out]; rfl, HBN⟩
    · obtain rfl : c = n := by omega
      have MF := fun w h => meetingFault_any ao c cap S L q (by omega) hcap hcap2 (fun i hi => rgF_ok (HA.out i hi)) w h
      have HO : Hid (lyF c L q = mfV c L q) := by
        show _ = _
        unfold lyF
        rw [if_neg h6, if_neg h20, firstP_none (P := fun i => decide (rgF (L i) (q i) ≠ 0)) (fun j hj => decide_eq_false (fun h => h (HA.out j hj)))]
      unfold TwoL at MF
      generalize mfV c L q = o at *
      go_wp2_with fail
      refine (MF _ (HS.out.step HB)).mono ?_
      rintro e w2 ⟨rfl, hB⟩
      replace HB := HB.trans (hB.mono HB.size)
      clear hB MF HS HL HC HA
      go_wp2
      go_ret2
      exact ⟨by rw [HO.out]; rfl, HB⟩
end Go.Proofs.YteakhlipmmfilaaGreat

/- What is at fault in a layer: the model's walk. -/
namespace Go.Proofs.YteakhlipmmfilaaGreat
open Go.RowKit
set_option maxRecDepth 100000 in
set_option maxHeartbeats 8000000 in
theorem specLayerFault_any (ao : Option Addr) (n cap : Nat) (S : Nat → Option Addr × Nat) (L : Nat → Nat) (q : Nat → Ps) (hn : n ≤ 1048576) (hL : ∀ i, i < n → L i ≤ 1048576) (w : World) (hS : RgIn w ao n S L q) : Calls Tryz.prog 63 #[.slice ao n cap] w (TwoL (lyF n L q) w) := by
  have hnI : (n : Int) ≤ 1048576 := by omega
  by_cases h6 : 6 < n
  · have HO : Hid (lyF n L q = (1, 0)) := by show _ = _; unfold lyF; rw [if_pos h6]
    have h6I : (6 : Int) < n := by omega
    clear hS hL
    go_enter Tryz.func63, Tryz.ntmps63
    go_wp2
    go_ret2
    exact ⟨by rw [HO.out]; rfl, Below.refl _ _⟩
  have h6I : (n : Int) ≤ 6 := by omega
  have HS : Hid (RgIn w ao n S L q) := hS
  have HL : Hid (∀ i, i < n → L i ≤ 1048576) := hL
  have hz := sumR_le hL n (Nat.le_refl _)
  have hzI : ((sumR L n : Nat) : Int) ≤ 6291456 := by omega
  clear hS hL hz
  go_enter Tryz.func63, Tryz.ntmps63
  go_wp2_with fail
  go_loopw [4, 5] (fun s i wr => ∃ c : Nat, c ≤ n ∧ i = .int .i64 c ∧ s = .int .i64 (sumR L c : Nat) ∧ Below w.heap.size w wr) (fun _ i _ => n - (intOf i).toNat)
  case atStart => exact ⟨0, by omega, rfl, rfl, Below.refl _ _⟩
  case round =>
    obtain ⟨c, hc, rfl, rfl, HBa⟩ := hrel
    by_cases hcn : c < n
    · obtain ⟨A, off, rfl, hA, q0, -⟩ := HS.out.step HBa c hcn
      have hcI : (c : Int) < n := by omega
      have s1 := sumR_le HL.out c hc
      have s2 := HL.out c hcn
      have hw : IntKind.i64.wrap (((sumR L c : Nat) : Int) + (L c : Int)) = ((sumR L (c + 1) : Nat) : Int) := by rw [IntKind.wrap_i64, sumR]; omega
      clear s1 s2
      go_wp2
      go_roundw
      case rel => exact ⟨c + 1, by omega, by go_num, by trivial, HBa⟩
      case measure => simp [intOf]; omega
    · obtain rfl : c = n := by omega
      by_cases h20 : 20 < sumR L c
      · have HO : Hid (lyF c L q = (2, 0)) := by show _ = _; unfold lyF; rw [if_neg h6, if_pos h20]
        have h20I : (20 : Int) < (sumR L c : Nat) := by omega
        clear HS HL
        go_wp2
        go_ret2
        exact ⟨by rw [HO.out]; rfl, HBa⟩
      have h20I : ((sumR L c : Nat) : Int) ≤ 20 := by omega
      go_wp2_with fail
      generalize hcm : c = m at *
      clear hcm
      have HSa : Hid (RgIn wr ao m S L q) := HS.out.step HBa
      clear HS
      generalize wr = W2 at *
      go_loopw [6] (fun i wx => ∃ c : Nat, c ≤ m ∧ i = .int .i64 c ∧ (∀ j, j < c → rgF (L j) (q j) = 0) ∧ Below W2.heap.size W2 wx) (fun i _ => m - (intOf i).toNat)
      case atStart => exact ⟨0, by omega, rfl, fun j hj => by omega, Below.refl _ _⟩
      case round =>
        rename_i hrel
        obtain ⟨c, hc, rfl, hall, HB⟩ := hrel
        have HA : Hid (∀ j, j < c → rgF (L j) (q j) = 0) := hall
        clear hall
        by_cases hcn : c < m
        · obtain ⟨A, off, rfl, hA, q0, hsp⟩ := HSa.out.step HB c hcn
          have hcI : (c : Int) < m := by omega
          have RF := fun w h => specRingFault_any (S c).1 (L c) (S c).2 (q c) (HL.out c hcn) w h
          have hin := rgF_in (L c) (q c)
          have HFs : Hid (rgF (L c) (q c) ≠ 0 → lyF m L q = (10 + rgF (L c) (q c), (c : Int))) := fun hk => by
            unfold lyF
            rw [if_neg h6, if_neg h20, firstP_some (P := fun i => decide (rgF (L i) (q i) ≠ 0)) hcn (decide_eq_true hk) (fun j hj => decide_eq_false (fun h => h (HA.out j hj)))]
          have HFz : Hid (rgF (L c) (q c) = 0 → ∀ j, j < c + 1 → rgF (L j) (q j) = 0) := fun hk j hj => by
            rcases Nat.lt_or_ge j c with h | h
            · exact HA.out j h
            · obtain rfl : j = c := by omega
              exact hk
          clear hA
          go_wp2_with fail
          refine (RF _ hsp).mono ?_
          rintro e w2 ⟨rfl, hB⟩
          replace HB := HB.trans (hB.mono HB.size)
          clear hB RF hsp q0
          generalize rgF (L c) (q c) = z at *
          by_cases hz : z = 0
          · subst hz
            go_wp2
            go_roundw
            case rel => exact ⟨c + 1, by omega, by go_num, HFz.out (by trivial), HB⟩
            case measure => simp [intOf]; omega
          · have hz2 : (z != 0) = true := by simp [hz]
            have HO : Hid (lyF m L q = (10 + z, (c : Int))) := HFs.out hz
            have hw : IntKind.i64.wrap (10 + z) = 10 + z := by rw [IntKind.wrap_i64]; omega
            clear HFs HFz hin
            go_wp2
            go_ret2
            exact ⟨by rw [HO.out]; rfl, HBa.trans (HB.mono HBa.size)⟩
        · obtain rfl : m = c := by omega
          have HR : Hid (∀ i, i < m → RgOk (L i) (q i)) := fun i hi => rgF_ok (HA.out i hi)
          have HO1 : Hid (lyF m L q = mfV m L q) := by
            show _ = _
            unfold lyF
            rw [if_neg h6, if_neg h20, firstP_none (P := fun i => decide (rgF (L i) (q i) ≠ 0)) (fun j hj => decide_eq_false (fun h => h (HA.out j hj)))]
          have HS2 : Hid (RgIn wr ao m S L q) := HSa.out.step HB
          have HBf := HBa.trans (HB.mono HBa.size)
          clear HA HB HSa
          go_wp2_with fail
          generalize wr = W3 at *
          go_loopw [8] (fun i wx => ∃ c : Nat, c ≤ m ∧ i = .int .i64 c ∧ (∀ j, j < c → mtA L q j = false) ∧ Below W3.heap.size W3 wx) (fun i _ => m - (intOf i).toNat)
          case atStart => exact ⟨0, by omega, rfl, fun j hj => by omega, Below.refl _ _⟩
          case round =>
            rename_i hrel
            obtain ⟨c, hc, rfl, hall, HB⟩ := hrel
            have HA : Hid (∀ j, j < c → mtA L q j = false) := hall
            clear hall
            by_cases hcn : c < m
            · have hcI : (c : Int) < m := by omega
              have HBo := HB
              clear HB
              go_wp2_with fail
              generalize wr = W4 at *
              go_loopw [9] (fun i wx => ∃ d : Nat, d ≤ c ∧ i = .int .i64 d ∧ (∀ k, k < d → rmB (L c) (q c) (L k) (q k) = false) ∧ Below W4.heap.size W4 wx) (fun i _ => c - (intOf i).toNat)
              case atStart => exact ⟨0, by omega, rfl, fun j hj => by omega, Below.refl _ _⟩
              case round =>
                rename_i hrel
                obtain ⟨d, hd, rfl, hall, HB⟩ := hrel
                have HE : Hid (∀ k, k < d → rmB (L c) (q c) (L k) (q k) = false) := hall
                clear hall
                have HB2 := HBo.trans (HB.mono HBo.size)
                by_cases hdn : d < c
                · have hdI : (d : Int) < c := by omega
                  obtain ⟨A, off, rfl, hA, q0, hsc⟩ := HS2.out.step HB2 c hcn
                  obtain ⟨A', off', hao, -, q1, hsp⟩ := HS2.out.step HB2 d (by omega)
                  obtain ⟨rfl, rfl⟩ : A = A' ∧ off = off' := by simpa using hao
                  have hdm : (d : Int) < m := by omega
                  have MM := fun w h k => l5Meet_any (S c).1 (S d).1 (L c) (S c).2 (L d) (S d).2 (q c) (q d) (HR.out c hcn) (HR.out d (by omega)) w h k
                  have H0 := Below.refl wr.heap.size wr
                  have HK : ∀ V, Below wr.heap.size wr V → (fun w' : World => w'.cell? ⟨A, off + c, none⟩ = some (.slice (S c).1 (L c) (S c).2) ∧ w'.cell? ⟨A, off + d, none⟩ = some (.slice (S d).1 (L d) (S d).2)) V := fun V h => ⟨(h.cell (p := ⟨A, _, none⟩) hA).trans q0, (h.cell (p := ⟨A, _, none⟩) hA).trans q1⟩
                  clear hao
                  go_upto_region 22 with fail
                  go_cut [64] (fun z wx => z = .bool (rmB (L c) (q c) (L d) (q d)) ∧ Below wr.heap.size wr wx)
                  case first =>
                    clear HE HA HR HS2 HL
                    go_region_held3 (fun w' : World => w'.cell? ⟨A, off + c, none⟩ = some (.slice (S c).1 (L c) (S c).2) ∧ w'.cell? ⟨A, off + d, none⟩ = some (.slice (S d).1 (L d) (S d).2)) (refine HK _ ?_ <;> repeat (first | (with_reducible exact H0) | (with_reducible refine Below.drew ?_)))
                      (first
                        | (go_at_call 117; refine (MM _ (by first | (with_reducible exact hsc) | (with_reducible exact hsc.drew)) (by first | (with_reducible exact hsp) | (with_reducible exact hsp.drew))).mono ?_; rintro e w3 ⟨rfl, hB⟩; (first | (have Hn : Below wr.heap.size wr w3 := (by with_reducible exact H0.trans (hB.mono H0.size))) | (have Hn : Below wr.heap.size wr w3 := (by with_reducible exact H0.drew.trans (hB.mono H0.drew.size)))); clear hB H0; have H0 := Hn; clear Hn))
                    all_goals go_wp2_with fail
                    all_goals go_meet
                    all_goals exact ⟨rfl, by first | (with_reducible exact H0) | (with_reducible exact H0.drew)⟩
                  case rest =>
                    obtain ⟨hq, hB⟩ := hcut
                    subst hq
                    have HBN := HB.trans (hB.mono HB.size)
                    clear hB HB HB2 H0 HK MM hsc hsp q0 q1 hA
                    cases hk : rmB (L c) (q c) (L d) (q d)
                    · have HK : Hid (rmB (L c) (q c) (L d) (q d) = false) := hk
                      clear hk
                      go_wp2
                      go_roundw
                      case rel => exact ⟨d + 1, by omega, by go_num, fun k hk => by
                        rcases Nat.lt_or_ge k d with h | h
                        · exact HE.out k h
                        · obtain rfl : k = d := by omega
                          exact HK.out, HBN⟩
                      case measure => simp [intOf]; omega
                    · have HO : Hid (lyF m L q = (3, (c : Int))) := by
                        show _ = _
                        rw [HO1.out]
                        unfold mfV
                        rw [firstP_some hcn (mtA_true hdn hk) HA.out]
                      have HBF := HBf.trans ((HBo.trans (HBN.mono HBo.size)).mono HBf.size)
                      clear hk HBN HBo HBf
                      go_wp2
                      go_ret2
                      exact ⟨by rw [HO.out]; rfl, HBF⟩
                · obtain rfl : d = c := by omega
                  have HBN := HBo.trans (HB.mono HBo.size)
                  have HM : Hid (mtA L q d = false) := mtA_false HE.out
                  clear HBo HB HB2
                  go_wp2
                  go_roundw
                  case rel => exact ⟨d + 1, by omega, by go_num, fun j hj => by
                    rcases Nat.lt_or_ge j d with h | h
                    · exact HA.out j h
                    · obtain rfl : j = d := by omega
                      exact HM.out, HBN⟩
                  case measure => simp [intOf]; omega
            · obtain rfl : m = c := by omega
              have HO : Hid (lyF m L q = (0, 0)) := by
                show _ = _
                rw [HO1.out]
                unfold mfV
                rw [firstP_none HA.out]
              have HBF := HBf.trans (HB.mono HBf.size)
              clear HS2 HR HL
              go_wp2
              go_ret2
              exact ⟨by rw [HO.out]; rfl, HBF⟩
end Go.Proofs.YteakhlipmmfilaaGreat

/- What is at fault in a layer: the law. -/
namespace Go.Proofs.YteakhlipmmfilaaGreat
open Go.RowKit
end Go.Proofs.YteakhlipmmfilaaGreat

/- Whether both layers of a session are right: both sides, the copies, the law. -/
namespace Go.Proofs.YteakhlipmmfilaaGreat
open Go.RowKit
def lyB (n : Nat) (L : Nat → Nat) (q : Nat → Ps) : Bool := decide ((lyF n L q).1 = 0)
set_option maxRecDepth 100000 in
set_option maxHeartbeats 4000000 in
theorem l6Ok_any (ao : Option Addr) (n cap : Nat) (S : Nat → Option Addr × Nat) (L : Nat → Nat) (q : Nat → Ps) (hn : n ≤ 1048576) (hL : ∀ i, i < n → L i ≤ 1048576) (w : World) (hS : RgIn w ao n S L q) : Calls Tryz.prog 28 #[.slice ao n cap] w (VP (.bool (lyB n L q)) w) := by
  have C := specLayerFault_any ao n cap S L q hn hL w hS
  unfold lyB
  unfold TwoL at C
  revert C
  generalize lyF n L q = o
  obtain ⟨o1, o2⟩ := o
  intro C
  clear hS hL
  go_enter Tryz.func28, Tryz.ntmps28
  go_wp2_with fail
  refine C.mono ?_
  rintro e w1 ⟨rfl, hB⟩
  by_cases h : o1 = 0
  · subst h
    go_wp2
    go_ret
    exact ⟨rfl, hB⟩
  · have hf : (o1 == 0) = false := by simp; omega
    have HD : Hid (decide (o1 = 0) = false) := decide_eq_false h
    go_wp2
    go_ret
    exact ⟨by simp only [HD.out]; rfl, hB⟩
set_option maxRecDepth 100000 in
set_option maxHeartbeats 4000000 in
theorem isLayer_any (ao : Option Addr) (n cap : Nat) (S : Nat → Option Addr × Nat) (L : Nat → Nat) (q : Nat → Ps) (hn : n ≤ 1048576) (hcap : n ≤ cap) (hcap2 : cap ≤ 9223372036854775807) (hL : ∀ i, i < n → L i ≤ 1048576) (hC : ∀ i, i < n → L i ≤ (S i).2 ∧ (S i).2 ≤ 9223372036854775807) (w : World) (hS : RgIn w ao n S L q) : Calls Tryz.prog 32 #[.slice ao n cap] w (VP (.bool (lyB n L q)) w) := by
  have C := implLayerFault_any ao n cap S L q hn hcap hcap2 hL hC w hS
  unfold lyB
  unfold TwoL at C
  revert C
  generalize lyF n L q = o
  obtain ⟨o1, o2⟩ := o
  intro C
  clear hS hL hC
  go_enter Tryz.func32, Tryz.ntmps32
  go_wp2_with fail
  refine C.mono ?_
  rintro e w1 ⟨rfl, hB⟩
  by_cases h : o1 = 0
  · subst h
    go_wp2
    go_ret
    exact ⟨rfl, hB⟩
  · have hf : (o1 == 0) = false := by simp; omega
    have HD : Hid (decide (o1 = 0) = false) := decide_eq_false h
    go_wp2
    go_ret
    exact ⟨by simp only [HD.out]; rfl, hB⟩
end Go.Proofs.YteakhlipmmfilaaGreat

/- On which side of a layer a point lies: both answers, the law. -/
namespace Go.Proofs.YteakhlipmmfilaaGreat
open Go.RowKit
/-- Whether the point lies on one of the first rings; whether an odd number of them have it. -/
def onL (L : Nat → Nat) (q : Nat → Ps) (x y z : Int) : Nat → Bool
  | 0 => false
  | d + 1 => onL L q x y z d || onR (L d) (q d) x y z (L d)
def paL (L : Nat → Nat) (q : Nat → Ps) (x y z : Int) : Nat → Bool
  | 0 => false
  | d + 1 => paL L q x y z d ^^ ctR (L d) (q d) x y z (L d)
def lsR (n : Nat) (L : Nat → Nat) (q : Nat → Ps) (x y z : Int) : Int := if onL L q x y z n = true then 0 else if paL L q x y z n = true then 1 else -1
def lsV (n : Nat) (L : Nat → Nat) (q : Nat → Ps) (x y z : Int) : Int := if lyB n L q = true ∧ ptB x y z = true then lsR n L q x y z else 2
theorem lyB_ok {n : Nat} {L : Nat → Nat} {q : Nat → Ps} (h : lyB n L q = true) : n ≤ 6 ∧ ∀ i, i < n → RgOk (L i) (q i) := by
  have h0 : (lyF n L q).1 = 0 := of_decide_eq_true h
  unfold lyF at h0
  split at h0
  · cases h0
  · split at h0
    · cases h0
    · refine ⟨by omega, fun i hi => ?_⟩
      cases hf : firstP (fun i => decide (rgF (L i) (q i) ≠ 0)) n with
      | some j =>
        rw [hf] at h0
        have := rgF_in (L j) (q j)
        simp only at h0
        omega
      | none =>
        unfold firstP at hf
        rw [List.find?_eq_none] at hf
        have := hf i (by simpa using hi)
        simp only [decide_eq_true_eq, Decidable.not_not] at this
        exact rgF_ok this
def VregL6Side (n cap A off c : Nat) (S : Nat → Option Addr × Nat) (L : Nat → Nat) (q : Nat → Ps) (x y z : Int) (rs1 rs2 rs3 : Bool) (ro1 ro2 ro3 : Option Addr) (rn1 rc1 rn2 rc2 rn3 rc3 : Nat) (_B : Nat) : Nat → Value → World → Prop
  | 0, v, _ => v = .slice (some ⟨A, off, none⟩) n cap
  | 1, v, _ => v = .int .i64 (c : Int)
  | 2, v, _ => v = .pointer (some ⟨A, off + c, none⟩)
  | 3, v, _ => v = .agg #[.slice (S c).1 (L c) (S c).2]
  | 4, v, _ => v = .agg #[.bool rs1, .slice ro1 rn1 rc1, .bool rs2, .slice ro2 rn2 rc2, .bool rs3, .slice ro3 rn3 rc3]
  | 5, v, _ => v = .int .i64 (sdR (L c) (q c) x y z)
  | _, _, _ => True
theorem VregL6Side.mono {n cap A off c : Nat} {S : Nat → Option Addr × Nat} {L : Nat → Nat} {q : Nat → Ps} {x y z : Int} {rs1 rs2 rs3 : Bool} {ro1 ro2 ro3 : Option Addr} {rn1 rc1 rn2 rc2 rn3 rc3 : Nat} {B j : Nat} {v : Value} {W W2 : World} (_hB : Below W.heap.size W W2) (h : VregL6Side n cap A off c S L q x y z rs1 rs2 rs3 ro1 ro2 ro3 rn1 rc1 rn2 rc2 rn3 rc3 B j v W) : VregL6Side n cap A off c S L q x y z rs1 rs2 rs3 ro1 ro2 ro3 rn1 rc1 rn2 rc2 rn3 rc3 B j v W2 := by
  unfold VregL6Side at *
  split <;> simp only at h <;> first | exact h | trivial
/-- A row of rings of the call's own. -/
def RgW (n : Nat) (L : Nat → Nat) (q : Nat → Ps) (v : Value) (W : World) : Prop := ∃ g S, v = .slice (some ⟨g, 0, none⟩) n n ∧ RgIn W (some ⟨g, 0, none⟩) n S L q ∧ ∀ i, (S i).2 = L i
theorem RgW.step {n : Nat} {L : Nat → Nat} {q : Nat → Ps} {v : Value} {W W2 : World} (h : RgW n L q v W) (hB : Below W.heap.size W W2) : RgW n L q v W2 := by
  obtain ⟨g, S, e, hs, hc⟩ := h
  exact ⟨g, S, e, hs.step hB, hc⟩
def VregLawLayer5 (ao : Option Addr) (n cap : Nat) (L : Nat → Nat) (q : Nat → Ps) (x y z : Int) (_B : Nat) : Nat → Value → World → Prop
  | 0, v, _ => v = .slice ao n cap
  | 1, v, W => RgW n L q v W
  | 2, v, _ => v = PV x y z
  | 3, v, _ => v = PV x y z
  | 4, v, _ => v = .int .i64 (lsV n L q x y z)
  | 5, v, _ => v = .int .i64 (lsV n L q x y z)
  | _, _, _ => True
theorem VregLawLayer5.mono {ao : Option Addr} {n cap : Nat} {L : Nat → Nat} {q : Nat → Ps} {x y z : Int} {B j : Nat} {v : Value} {W W2 : World} (hB : Below W.heap.size W W2) (h : VregLawLayer5 ao n cap L q x y z B j v W) : VregLawLayer5 ao n cap L q x y z B j v W2 := by
  unfold VregLawLayer5 at *
  split <;> simp only at h <;> first | exact h | exact h.step hB | trivial
end Go.Proofs.YteakhlipmmfilaaGreat

/- How spots and segments read as data, beside points: opened and shut. -/
namespace Go.Proofs.YteakhlipmmfilaaGreat
open Go.ChangeShapes Go.WideShapes Go.ChangeAt Go.RowKit Go.Joins
abbrev Wf (x : Int) : Prop := (Lit.int .i64 x).wf = true
abbrev SpD {H : Type} (x y : Int) : DataW H := .agg [.lit (.int .i64 x), .lit (.int .i64 y)]
theorem trod_spot {H : Type} {enc : TypeId × Value → H} {w : World} {base : Nat} {spare : TypeId → Bool} {held : Bool} {n : Nat} {c0 c1 : Value} {y : DataW H × List MemPlace} (h : DataW.trod enc Tryz.prog w base spare held n 151 [c0, c1] = some y) :
    ∃ a b : Int, c0 = .int .i64 a ∧ c1 = .int .i64 b ∧ y = (SpD a b, []) ∧ Wf a ∧ Wf b := by
  obtain ⟨y0, y1, m, hx, _, h0, h1⟩ := trod_struct2 Tryz.underlying151 h
  obtain ⟨a, e0, rfl, wa⟩ := DataW.trod_int Tryz.underlying2 h0
  obtain ⟨b, e1, rfl, wb⟩ := DataW.trod_int Tryz.underlying2 h1
  have k : Tryz.prog.cellsOf 2 = 1 := by kernel_rfl
  simp [k] at e0 e1
  exact ⟨a, b, e0, e1, hx, wa, wb⟩
end Go.Proofs.YteakhlipmmfilaaGreat

/- How rings, and rows of rings, read as data. -/
namespace Go.Proofs.YteakhlipmmfilaaGreat
open Go.ChangeShapes Go.WideShapes Go.ChangeAt Go.RowKit Go.Joins
theorem Tryz.laidOut : laidOutB Tryz.prog = true := by kernel_rfl
theorem Tryz.cellsSpotL : Tryz.prog.cellsOf 151 = 2 := by kernel_rfl
theorem Tryz.cellsRing : Tryz.prog.cellsOf 61 = 1 := by kernel_rfl
theorem Tryz.cellsSpotS : Tryz.prog.cellsOf 59 = 1 := by kernel_rfl
theorem spots_of {H : Type} {enc : TypeId × Value → H} {W : World} {a : Addr} {len m n : Nat} {D : Nat → DataW H} {Pl : Nat → List MemPlace} (hl : len ≤ m)
    (hx : ∀ i, i < m → ∃ cs', W.cells? 0 (a.add (i * Tryz.prog.cellsOf 151)) (Tryz.prog.cellsOf 151) = some cs' ∧ DataW.trod enc Tryz.prog W 0 (fun _ => true) true n 151 cs' = some (D i, Pl i))
    (hlt : ∀ x ∈ MemPlace.row a (m * Tryz.prog.cellsOf 151), x.block < W.heap.size) : ∃ p : Ps, SpIn W (some a) len p := by
  rw [Tryz.cellsSpotL] at hx hlt
  have each : ∀ i, i < m → ∃ q : Int × Int, W.cell? (a.add (i * 2)) = some (.int .i64 q.1) ∧ W.cell? (a.add (i * 2 + 1)) = some (.int .i64 q.2) := by
    intro i hi
    obtain ⟨cs', h1, h2⟩ := hx i hi
    obtain ⟨_, hlen, hcell⟩ := World.cells?_some h1
    match cs', hlen with
    | [v0, v1], _ =>
      have e0 := hcell 0 (by omega); have e1 := hcell 1 (by omega)
      rw [Go.Deep.add_add] at e0 e1
      obtain ⟨x, y, rfl, rfl, -, -, -⟩ := trod_spot h2
      exact ⟨(x, y), by simpa using e0, by simpa using e1⟩
  obtain ⟨q, hq⟩ := Go.Deep.choose_lt each
  obtain ⟨ab, ao, spot⟩ := a
  refine ⟨q, fun i hi => ?_⟩
  have hspot : spot = none := by simpa [Addr.add] using World.cell?_spot (hq 0 (by omega)).1
  subst hspot
  obtain ⟨c0, c1⟩ := hq i (by omega)
  rw [Addr.add_lit] at c0 c1
  exact ⟨ab, ao, rfl, hlt (.cell ab (ao + i * 2)) (by simp only [MemPlace.row, List.mem_map, List.mem_range]; exact ⟨i * 2, by omega, rfl⟩), c0, by simpa [Nat.add_assoc] using c1⟩
theorem rings_of {H : Type} {enc : TypeId × Value → H} {W : World} {a : Addr} {len m n : Nat} {D : Nat → DataW H} {Pl : Nat → List MemPlace} (hl : len ≤ m)
    (hx : ∀ i, i < m → ∃ cs', W.cells? 0 (a.add (i * Tryz.prog.cellsOf 61)) (Tryz.prog.cellsOf 61) = some cs' ∧ DataW.trod enc Tryz.prog W 0 (fun _ => true) true n 61 cs' = some (D i, Pl i))
    (hlt : ∀ x ∈ MemPlace.row a (m * Tryz.prog.cellsOf 61), x.block < W.heap.size) (hlt2 : ∀ i, i < m → ∀ x ∈ Pl i, x.block < W.heap.size) : ∃ (S : Nat → Option Addr × Nat) (L : Nat → Nat) (q : Nat → Ps), RgIn W (some a) len S L q ∧ ∀ i, i < len → L i ≤ 9223372036854775807 := by
  rw [Tryz.cellsRing] at hx hlt
  have each : ∀ i, i < m → ∃ r : (Option Addr × Nat) × Nat × Ps, W.cell? (a.add i) = some (.slice r.1.1 r.2.1 r.1.2) ∧ SpIn W r.1.1 r.2.1 r.2.2 ∧ r.2.1 ≤ 9223372036854775807 := by
    intro i hi
    obtain ⟨cs', h1, h2⟩ := hx i hi
    obtain ⟨_, hlen, hcell⟩ := World.cells?_some h1
    match cs', hlen with
    | [v0], _ =>
      have e0 := hcell 0 (by omega)
      rw [Go.Deep.add_add] at e0
      simp at e0
      obtain ⟨y0, k, hy, _, g0⟩ := trod_struct1 Tryz.underlying61 h2
      simp [Tryz.cellsSpotS] at g0
      have hpl : Pl i = y0.2 := by have := congrArg Prod.snd hy; simpa using this
      rcases Go.Deep.open_slice Tryz.underlying59 g0 with ⟨hcs, -⟩ | ⟨a', len', cap', m', n', D', Pl', hcs, _, hl', hm', hz', hx', hel'⟩
      · simp at hcs
        subst hcs
        exact ⟨((none, 0), 0, fun _ => (0, 0)), e0, fun i hi => absurd hi (Nat.not_lt_zero _), Nat.zero_le _⟩
      · simp at hcs
        subst hcs
        simp only [if_true] at hz'
        have hb : ∀ x ∈ MemPlace.row a' (m' * Tryz.prog.cellsOf 151), x.block < W.heap.size := fun x hxx => hlt2 i hi x (by
          rw [hpl, hx']
          exact List.mem_append_left _ hxx)
        obtain ⟨p, hp⟩ := spots_of (len := len') (by omega) hel' hb
        exact ⟨((some a', cap'), len', p), e0, hp, by show len' ≤ _; have := hm'; simp [maxLen] at this; omega⟩
  obtain ⟨r, hr⟩ := Go.Deep.choose_lt each
  obtain ⟨ab, ao, spot⟩ := a
  refine ⟨fun i => (r i).1, fun i => (r i).2.1, fun i => (r i).2.2, fun i hi => ?_, fun i hi => (hr i (by omega)).2.2⟩
  have hspot : spot = none := by simpa [Addr.add] using World.cell?_spot (hr 0 (by omega)).1
  subst hspot
  have c0 := (hr i (by omega)).1
  rw [Addr.add_lit] at c0
  exact ⟨ab, ao, rfl, hlt (.cell ab (ao + i)) (by simp only [MemPlace.row, List.mem_map, List.mem_range]; exact ⟨i, by omega, rfl⟩), c0, (hr i (by omega)).2.1⟩
set_option maxRecDepth 100000 in
/-- A row of rings that is handed in. -/
theorem open_rings {H : Type} {enc : TypeId × Value → H} {W : World} {base : Nat} {v : Value} {d : DataW H} {pl : List MemPlace} (ok : Value.okWide Tryz.prog W .any base 22 v) (h : DataW.Trod enc Tryz.prog W 0 (fun _ => true) true 22 v d pl) (hlt : ∀ x ∈ pl, x.block < W.heap.size) :
    ∃ ao n cap S L q, v = .slice ao n cap ∧ n ≤ 9223372036854775807 ∧ (∀ i, i < n → L i ≤ 9223372036854775807) ∧ RgIn W ao n S L q := by
  obtain ⟨a0, len, cap, rfl⟩ := okWide_slice Tryz.underlying22 ok
  obtain ⟨fuel, hf⟩ := h
  rcases Go.Deep.open_slice Tryz.underlying22 hf with ⟨hcs, hx⟩ | ⟨a, len', cap', m, n, D, Pl, hcs, _, hl, hm, hz, hx, hel⟩
  · simp [Value.cells] at hcs
    obtain ⟨rfl, rfl, rfl⟩ := hcs
    exact ⟨none, 0, 0, fun _ => (none, 0), fun _ => 0, fun _ _ => (0, 0), rfl, by omega, fun i hi => by omega, fun i hi => by omega⟩
  · simp [Value.cells] at hcs
    obtain ⟨rfl, rfl, rfl⟩ := hcs
    simp only [Prod.mk.injEq] at hx
    obtain ⟨rfl, rfl⟩ := hx
    simp only [if_true] at hz
    obtain ⟨S, L, q, hS, hL⟩ := rings_of (len := len) (by omega) hel (fun y hy => hlt y (List.mem_append_left _ hy)) (fun i hi y hy => hlt y (List.mem_append_right _ (List.mem_flatMap.2 ⟨i, List.mem_range.2 hi, hy⟩)))
    exact ⟨some a, len, cap, S, L, q, rfl, by have := hm; simp [maxLen] at this; omega, hL, hS⟩
end Go.Proofs.YteakhlipmmfilaaGreat

/- What the row of a law asks of the program as a whole, each by itself. -/
namespace Go.Proofs.YteakhlipmmfilaaGreat
open Go.ChangeShapes Go.WideShapes Go.ChangeAt Go.RowKit Go.Joins
theorem jn_laid : laidOutB Tryz.pinned.checked.prog = true := by kernel_rfl
theorem jn_maps : mapsRowed Tryz.pinned.checked.prog = true := by kernel_rfl
theorem jn_enter : Tryz.pinned.checked.prog.mayEnter = true := by kernel_rfl
theorem jn_heard : Tryz.pinned.checked.prog.stopsHeard = true := by kernel_rfl
end Go.Proofs.YteakhlipmmfilaaGreat

/- Rings marked: what a layer's marks leave as it was. -/
namespace Go.Proofs.YteakhlipmmfilaaGreat
open Go.RowKit
/-- What lies ahead of b, or from t on, is as it was. -/
def OutL (b t : Nat) (w w' : World) : Prop := Below b w w' ∧ ∀ k, t ≤ k → k < w.heap.size → w'.heap[k]? = w.heap[k]?
theorem OutL.refl (b t : Nat) (w : World) : OutL b t w w := ⟨Below.refl _ _, fun _ _ _ => rfl⟩
theorem OutL.trans {b t : Nat} {w w' w'' : World} (h : OutL b t w w') (k : OutL b t w' w'') : OutL b t w w'' :=
  ⟨h.1.trans k.1, fun i hi hs => (k.2 i hi (Nat.lt_of_lt_of_le hs h.1.size)).trans (h.2 i hi hs)⟩
/-- A row of whole numbers, whatever they are. -/
def IntRow (w : World) (g n : Nat) : Prop := ∃ f : Nat → Value, w.rowIs g 51 n f ∧ ∀ i, i < n → ∃ z, f i = .int .i64 z
theorem IntRow.of_block {w w' : World} {g n : Nat} (h : IntRow w g n) (hb : w'.heap[g]? = w.heap[g]?) : IntRow w' g n := by
  obtain ⟨f, R, hf⟩ := h
  exact ⟨f, R.of_block hb, hf⟩
theorem IntRow.same {w : World} {g n m : Nat} (h : IntRow w g n) (k : IntRow w g m) : n = m := by
  obtain ⟨_, ⟨c, h1, h2, _⟩, _⟩ := h
  obtain ⟨_, ⟨d, k1, k2, _⟩, _⟩ := k
  rw [h1] at k1
  obtain ⟨rfl, _⟩ := Obj.cells.inj (Option.some.inj k1)
  omega
theorem IntRow.lt {w : World} {g n : Nat} (h : IntRow w g n) : g < w.heap.size := by
  obtain ⟨f, R, hf⟩ := h
  exact R.lt
theorem IntRow.set {w : World} {g n : Nat} (h : IntRow w g n) (i : Nat) (u : Int) : IntRow (w.setCell ⟨g, i, none⟩ (.int .i64 u)) g n := by
  obtain ⟨f, R, hf⟩ := h
  refine ⟨_, R.set i (.int .i64 u), fun k hk => ?_⟩
  by_cases e : k = i
  · exact ⟨u, by simp [e]⟩
  · obtain ⟨z, hz⟩ := hf k hk
    exact ⟨z, by simp [e, hz]⟩
/-- No block but one has turned. -/
def OneB (g : Nat) (w w' : World) : Prop := (∀ k, k ≠ g → w'.heap[k]? = w.heap[k]?) ∧ Below g w w'
set_option maxRecDepth 100000 in
set_option maxHeartbeats 2000000 in
theorem markSpotK_any (g n cap K : Nat) (hn : n ≤ 1048576) (hK : K ≤ 1152921504606846976) (w : World) (R : IntRow w g (n * 2)) : Calls Tryz.prog 38 #[.slice (some ⟨g, 0, none⟩) n cap, .int .i64 (K : Int)] w (fun e w' => e = .returned (.int .i64 ((K : Int) + (n : Int) * 2)) ∧ IntRow w' g (n * 2) ∧ OneB g w w') := by
  have hKI : (K : Int) ≤ 1152921504606846976 := by omega
  have HR : Hid (IntRow w g (n * 2)) := R
  clear R
  have hnI : (n : Int) ≤ 1048576 := by omega
  go_enter Tryz.func38, Tryz.ntmps38
  go_wp2_with fail
  go_loopw [1, 5] (fun o i wr => ∃ c : Nat, c ≤ n ∧ o = .int .i64 ((K : Int) + (c : Int) * 2) ∧ i = .int .i64 c ∧ IntRow wr g (n * 2) ∧ OneB g w wr) (fun _ i _ => n - (intOf i).toNat)
  case atStart => exact ⟨0, by omega, by simp, rfl, HR.out, fun _ _ => rfl, Below.refl _ _⟩
  case round =>
    obtain ⟨c, hcn, rfl, rfl, R, KB⟩ := hrel
    by_cases hlt : c < n
    · have hcI : (c : Int) < n := by omega
      have RN := (R.set (c * 2) ((K : Int) + (c : Int) * 2)).set (c * 2 + 1) ((K : Int) + (c : Int) * 2 + 1)
      have KN : OneB g w ((wr.setCell ⟨g, c * 2, none⟩ (.int .i64 ((K : Int) + (c : Int) * 2))).setCell ⟨g, c * 2 + 1, none⟩ (.int .i64 ((K : Int) + (c : Int) * 2 + 1))) := ⟨fun k hk => (Below.heap_setCell _ _ _ _ hk).trans ((Below.heap_setCell _ _ _ _ hk).trans (KB.1 k hk)), (KB.2.setCell (p := ⟨g, c * 2, none⟩) (Nat.le_refl _) _).setCell (p := ⟨g, c * 2 + 1, none⟩) (Nat.le_refl _) _⟩
      obtain ⟨f', R', hz⟩ := R
      obtain ⟨z0, e0⟩ := hz (c * 2) (by omega)
      obtain ⟨z1, e1⟩ := hz (c * 2 + 1) (by omega)
      have o0 := R'.cell (i := c * 2) (by omega); have o1 := R'.cell (i := c * 2 + 1) (by omega)
      rw [e0] at o0
      rw [e1] at o1
      have f0 := R'.frozen (c * 2); have f1 := R'.frozen (c * 2 + 1)
      have HRN : Hid (IntRow ((wr.setCell ⟨g, c * 2, none⟩ (.int .i64 ((K : Int) + (c : Int) * 2))).setCell ⟨g, c * 2 + 1, none⟩ (.int .i64 ((K : Int) + (c : Int) * 2 + 1))) g (n * 2)) := RN
      clear R' hz e0 e1 RN KB
      go_wp2
      go_roundw
      case rel => exact ⟨c + 1, by omega, by go_num, by go_num, HRN.out, KN⟩
      case measure => simp [intOf]; omega
    · obtain rfl : c = n := by omega
      go_wp2
      go_ret
      exact ⟨rfl, R, KB⟩
/-- Rings of the call's own, each in a block of its own kind. -/
def OwnRs (w : World) (b t g n : Nat) (S : Nat → Option Addr × Nat) (L : Nat → Nat) : Prop := b ≤ g ∧ g < t ∧ (∀ i, i < n → w.cell? ⟨g, i, none⟩ = some (.slice (S i).1 (L i) (S i).2)) ∧ ∀ i, i < n → ∃ gi, (S i).1 = some ⟨gi, 0, none⟩ ∧ g < gi ∧ gi < t ∧ IntRow w gi (L i * 2)
theorem OwnRs.step {w w' : World} {b t g n : Nat} {S : Nat → Option Addr × Nat} {L : Nat → Nat} (h : OwnRs w b t g n S L) (ht : t ≤ w.heap.size) (hB : Below w.heap.size w w') : OwnRs w' b t g n S L := by
  obtain ⟨h1, h2, h3, h4⟩ := h
  refine ⟨h1, h2, fun i hi => (hB.cell (p := ⟨g, i, none⟩) (by show g < _; omega)).trans (h3 i hi), fun i hi => ?_⟩
  obtain ⟨gi, e, k1, k2, k3⟩ := h4 i hi
  exact ⟨gi, e, k1, k2, k3.of_block (hB.block gi (by omega))⟩
set_option maxRecDepth 100000 in
set_option maxHeartbeats 2000000 in
theorem markRingsK_any (b t g n cap : Nat) (S : Nat → Option Addr × Nat) (L : Nat → Nat) (hn : n ≤ 1048576) (hL : ∀ i, i < n → L i ≤ 1048576) (w : World) (R : OwnRs w b t g n S L) : Calls Tryz.prog 12 #[.slice (some ⟨g, 0, none⟩) n cap, .int .i64 1] w (fun e w' => ∃ K : Nat, e = .returned (.int .i64 (K : Int)) ∧ K ≤ 1152921504606846976 ∧ OutL b t w w') := by
  have HR : Hid (OwnRs w b t g n S L) := R
  have HL : Hid (∀ i, i < n → L i ≤ 1048576) := hL
  clear R hL
  have hnI : (n : Int) ≤ 1048576 := by omega
  go_enter Tryz.func12, Tryz.ntmps12
  go_wp2_with fail
  go_loopw [1, 5] (fun o i wr => ∃ c K : Nat, c ≤ n ∧ K ≤ 1 + c * 2097152 ∧ o = .int .i64 (K : Int) ∧ i = .int .i64 c ∧ OwnRs wr b t g n S L ∧ OutL b t w wr) (fun _ i _ => n - (intOf i).toNat)
  case atStart => exact ⟨0, 1, by omega, by omega, rfl, rfl, HR.out, OutL.refl _ _ _⟩
  case round =>
    obtain ⟨c, K, hcn, hK, rfl, rfl, R, KB⟩ := hrel
    have hKI : (K : Int) ≤ 1 + c * 2097152 := by omega
    by_cases hlt : c < n
    · have hcI : (c : Int) < n := by omega
      obtain ⟨h1, h2, h3, h4⟩ := R
      obtain ⟨gi, e, k1, k2, k3⟩ := h4 c hlt
      have r0 := h3 c hlt
      rw [e] at r0
      have hLc := HL.out c hlt
      have CM := fun w' h => markSpotK_any gi (L c) (S c).2 K hLc (by omega) w' h
      have HH : Hid (OwnRs wr b t g n S L) := ⟨h1, h2, h3, h4⟩
      have HI3 : Hid (IntRow wr gi (L c * 2)) := k3
      clear h3 h4 k3
      go_wp2_with fail
      refine (CM _ HI3.out).mono ?_
      rintro r w1 ⟨rfl, hI, hO⟩
      have HN : Hid (OwnRs w1 b t g n S L) := by
        obtain ⟨a1, a2, a3, a4⟩ := HH.out
        refine ⟨a1, a2, fun i hi => (World.cell?_of_block (a := ⟨g, i, none⟩) (hO.1 g (by omega))).trans (a3 i hi), fun i hi => ?_⟩
        obtain ⟨gj, e', m1, m2, m3⟩ := a4 i hi
        refine ⟨gj, e', m1, m2, ?_⟩
        by_cases hg : gj = gi
        · subst hg
          rw [m3.same HI3.out]
          exact hI
        · exact m3.of_block (hO.1 gj hg)
      have KN : OutL b t w w1 := KB.trans ⟨hO.2.mono (by omega), fun k hk _ => hO.1 k (by omega)⟩
      clear CM HI3 hI hO r0 HH KB
      go_wp2
      go_roundw
      case rel => exact ⟨c + 1, K + L c * 2, by omega, by omega, by go_num, by go_num, HN.out, KN⟩
      case measure => simp [intOf]; omega
    · obtain rfl : c = n := by omega
      go_wp2
      go_ret
      exact ⟨K, rfl, by omega, KB⟩
end Go.Proofs.YteakhlipmmfilaaGreat

/- The sides of all rings in order: the reckoning. -/
namespace Go.Proofs.YteakhlipmmfilaaGreat
open Go.RowKit
/-- The four numbers of a segment. -/
abbrev Sd := Int × Int × Int × Int
def sgLt (s t : Sd) : Bool := decide ((s.1 < t.1 ∨ (s.1 = t.1 ∧ s.2.1 < t.2.1)) ∨ ((s.1 = t.1 ∧ s.2.1 = t.2.1) ∧ (s.2.2.1 < t.2.2.1 ∨ (s.2.2.1 = t.2.2.1 ∧ s.2.2.2 < t.2.2.2))))
theorem sgLt_iff {s t : Sd} : sgLt s t = true ↔ (s.1 < t.1 ∨ (s.1 = t.1 ∧ s.2.1 < t.2.1)) ∨ ((s.1 = t.1 ∧ s.2.1 = t.2.1) ∧ (s.2.2.1 < t.2.2.1 ∨ (s.2.2.1 = t.2.2.1 ∧ s.2.2.2 < t.2.2.2))) := decide_eq_true_iff
/-- cmp.Or of two. -/
def or2 (a b : Int) : Int := if a = 0 then b else a
def cfP (a b c d : Int) : Int := or2 (Lib.compareInt a c) (Lib.compareInt b d)
def cfS (s t : Sd) : Int := or2 (cfP s.1 s.2.1 t.1 t.2.1) (cfP s.2.2.1 s.2.2.2 t.2.2.1 t.2.2.2)
theorem cmp_cases (x y : Int) : (x < y ∧ Lib.compareInt x y = -1) ∨ (x = y ∧ Lib.compareInt x y = 0) ∨ (y < x ∧ Lib.compareInt x y = 1) := by
  unfold Lib.compareInt
  rcases Int.lt_trichotomy x y with h | h | h
  · exact .inl ⟨h, by simp [h]⟩
  · exact .inr (.inl ⟨h, by subst h; simp⟩)
  · exact .inr (.inr ⟨h, by simp [h]; omega⟩)
theorem cf_lt (s t : Sd) : ltOf cfS s t = sgLt s t := by
  obtain ⟨a, b, c, d⟩ := s
  obtain ⟨p, q, u, v⟩ := t
  have key : cfS (a, b, c, d) (p, q, u, v) < 0 ↔ (a < p ∨ (a = p ∧ b < q)) ∨ ((a = p ∧ b = q) ∧ (c < u ∨ (c = u ∧ d < v))) := by
    unfold cfS cfP or2
    simp only
    rcases cmp_cases a p with ⟨h1, e1⟩ | ⟨h1, e1⟩ | ⟨h1, e1⟩ <;> rcases cmp_cases b q with ⟨h2, e2⟩ | ⟨h2, e2⟩ | ⟨h2, e2⟩ <;> rcases cmp_cases c u with ⟨h3, e3⟩ | ⟨h3, e3⟩ | ⟨h3, e3⟩ <;> rcases cmp_cases d v with ⟨h4, e4⟩ | ⟨h4, e4⟩ | ⟨h4, e4⟩ <;> simp [e1, e2, e3, e4] <;> omega
  unfold ltOf sgLt
  exact decide_eq_decide.2 key
theorem sg_tot {s t : Sd} (h1 : sgLt s t = false) (h2 : sgLt t s = false) : s = t := by
  obtain ⟨a, b, c, d⟩ := s
  obtain ⟨p, q, u, v⟩ := t
  have h1 := of_decide_eq_false h1
  have h2 := of_decide_eq_false h2
  simp only at h1 h2
  have e1 : a = p := by omega
  have e2 : b = q := by omega
  have e3 : c = u := by omega
  have e4 : d = v := by omega
  rw [e1, e2, e3, e4]
theorem sg_swo : Sort.SWO (ltOf cfS) where
  irrefl x := by
    rw [cf_lt]
    exact decide_eq_false (by omega)
  trans x y z h1 h2 := by
    rw [cf_lt] at *
    have h1 := sgLt_iff.1 h1
    have h2 := sgLt_iff.1 h2
    exact sgLt_iff.2 (by omega)
  ntrans x y z h1 h2 := by
    rw [cf_lt] at *
    have h1 := of_decide_eq_false h1
    have h2 := of_decide_eq_false h2
    exact decide_eq_false (by omega)
/-- A segment put into a row. -/
def insS (out : List Sd) (s : Sd) : List Sd := out.takeWhile (fun t => sgLt t s) ++ s :: out.dropWhile (fun t => sgLt t s)
theorem insS_perm (out : List Sd) (s : Sd) : (insS out s).Perm (out ++ [s]) := by
  unfold insS
  refine List.perm_middle.trans ?_
  rw [List.takeWhile_append_dropWhile]
  exact List.perm_append_comm (l₁ := [s]) (l₂ := out)
def srtS (l : List Sd) : Prop := l.Pairwise (fun a b => sgLt b a = false)
theorem insS_sorted {out : List Sd} (h : srtS out) (s : Sd) : srtS (insS out s) := by
  induction out with
  | nil => exact List.pairwise_singleton _ _
  | cons a r ih =>
    have h' := List.pairwise_cons.1 h
    unfold insS
    cases hc : sgLt a s with
    | true =>
      rw [List.takeWhile_cons, List.dropWhile_cons, hc]
      simp only [if_true, List.cons_append]
      refine List.pairwise_cons.2 ⟨fun b hb => ?_, ih h'.2⟩
      have hb2 := (insS_perm r s).mem_iff.1 (show b ∈ insS r s from hb)
      rcases List.mem_append.1 hb2 with hb3 | hb3
      · exact h'.1 b hb3
      · obtain rfl := List.mem_singleton.1 hb3
        have h1 := sgLt_iff.1 hc
        exact decide_eq_false (by omega)
    | false =>
      rw [List.takeWhile_cons, List.dropWhile_cons, hc]
      refine List.pairwise_cons.2 ⟨fun b hb => ?_, h⟩
      rcases List.mem_cons.1 hb with rfl | hb
      · exact hc
      · have h1 := of_decide_eq_false hc
        have h2 := of_decide_eq_false (h'.1 b hb)
        exact decide_eq_false (by omega)
/-- All of them, one put behind the other. -/
def allI (l : List Sd) : List Sd := l.foldl insS []
theorem fold_perm : ∀ (l out : List Sd), (l.foldl insS out).Perm (out ++ l)
  | [], out => by rw [List.append_nil]; exact List.Perm.refl _
  | s :: r, out => by
    refine (fold_perm r (insS out s)).trans ?_
    refine ((insS_perm out s).append_right r).trans ?_
    rw [List.append_assoc]
    exact List.Perm.refl _
theorem fold_sorted : ∀ (l out : List Sd), srtS out → srtS (l.foldl insS out)
  | [], _, h => h
  | s :: r, out, h => fold_sorted r (insS out s) (insS_sorted h s)
theorem sort_one {l d : List Sd} (hp : d.Perm l) (hs : srtS d) : d = allI l := by
  refine List.Perm.eq_of_pairwise (le := fun a b => sgLt b a = false) (fun a b _ _ h1 h2 => (sg_tot h2 h1)) hs (fold_sorted l [] List.Pairwise.nil) (hp.trans ?_)
  have := fold_perm l []
  rw [List.nil_append] at this
  exact this.symm
theorem allI_snoc (l : List Sd) (s : Sd) : allI (l ++ [s]) = insS (allI l) s := by
  unfold allI
  rw [List.foldl_append]
  rfl
theorem allI_len (l : List Sd) : (allI l).length = l.length := by
  have := (fold_perm l []).length_eq
  rw [List.nil_append] at this
  exact this
end Go.Proofs.YteakhlipmmfilaaGreat
