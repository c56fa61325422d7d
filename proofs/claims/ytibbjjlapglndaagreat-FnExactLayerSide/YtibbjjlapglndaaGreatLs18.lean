/- Part 18 of the walks that the proof leans on. -/
import Derived.Test.YtibbjjlapglndaaGreatLs17
import Derived.Test.YtibbjjlapglndaaGreatLs7
import Derived.SizedLaws
import Derived.Deep.Slices
import Derived.Test.YtibbjjlapglndaaGreatRows
import Derived.ProofKit
import Derived.Lib.SmallJoins
namespace Go.Proofs.YtibbjjlapglndaaGreat
open Go.RowKit
def onL (L : Nat → Nat) (q : Nat → Ps) (x y z : Int) : Nat → Bool
 | 0 => false
 | d + 1 => onL L q x y z d || onR (L d) (q d) x y z (L d)
def paL (L : Nat → Nat) (q : Nat → Ps) (x y z : Int) : Nat → Bool
 | 0 => false
 | d + 1 => paL L q x y z d ^^ ctR (L d) (q d) x y z (L d)
def lsR (n : Nat) (L : Nat → Nat) (q : Nat → Ps) (x y z : Int) : Int := if onL L q x y z n = true then 0 else if paL L q x y z n = true then 1 else -1
def lsV (n : Nat) (L : Nat → Nat) (q : Nat → Ps) (x y z : Int) : Int := if lyB n L q = true ∧ ptB x y z = true then lsR n L q x y z else 2
theorem onL_mono {L : Nat → Nat} {q : Nat → Ps} {x y z : Int} {d e : Nat} (h : d ≤ e) (ho : onL L q x y z d = true) : onL L q x y z e = true := by
 induction h with
 | refl => exact ho
 | step _ ih => rw [onL, ih]; rfl
theorem sdR_cases (n : Nat) (p : Ps) (x y z : Int) : (sdR n p x y z = 0 ∧ onR n p x y z n = true) ∨ (sdR n p x y z = 1 ∧ onR n p x y z n = false ∧ ctR n p x y z n = true) ∨ (sdR n p x y z = -1 ∧ onR n p x y z n = false ∧ ctR n p x y z n = false) := by
 unfold sdR
 cases h1 : onR n p x y z n
 · cases h2 : ctR n p x y z n
   · exact .inr (.inr ⟨rfl, rfl, rfl⟩)
   · exact .inr (.inl ⟨rfl, rfl, rfl⟩)
 · exact .inl ⟨rfl, rfl⟩
theorem lyB_ok {n : Nat} {L : Nat → Nat} {q : Nat → Ps} (h : lyB n L q = true) : n ≤ 6 ∧ ∀ i, i < n → RgOk (L i) (q i) := by
 have h0 : (lyF n L q).1 = 0 := of_decide_eq_true h
 unfold lyF at h0
 split at h0
 · cases h0
 · split at h0
   · cases h0
   · refine ⟨by omega, fun i hi => ?_⟩
     cases hf : firstP (fun i => decide (rgF (L i) (q i) ≠ 0)) n with
     | some j =>
       rw [hf] at h0
       have := rgF_in (L j) (q j)
       simp only at h0
       omega
     | none =>
       unfold firstP at hf
       rw [List.find?_eq_none] at hf
       have := hf i (by simpa using hi)
       simp only [decide_eq_true_eq, Decidable.not_not] at this
       exact rgF_ok this
def VregL6Side (n cap A off c : Nat) (S : Nat → Option Addr × Nat) (L : Nat → Nat) (q : Nat → Ps) (x y z : Int) (rs1 rs2 rs3 : Bool) (ro1 ro2 ro3 : Option Addr) (rn1 rc1 rn2 rc2 rn3 rc3 : Nat) (_B : Nat) : Nat → Value → World → Prop
 | 0, v, _ => v = .slice (some ⟨A, off, none⟩) n cap
 | 1, v, _ => v = .int .i64 (c : Int)
 | 2, v, _ => v = .pointer (some ⟨A, off + c, none⟩)
 | 3, v, _ => v = .agg #[.slice (S c).1 (L c) (S c).2]
 | 4, v, _ => v = .agg #[.bool rs1, .slice ro1 rn1 rc1, .bool rs2, .slice ro2 rn2 rc2, .bool rs3, .slice ro3 rn3 rc3]
 | 5, v, _ => v = .int .i64 (sdR (L c) (q c) x y z)
 | _, _, _ => True
theorem VregL6Side.mono {n cap A off c : Nat} {S : Nat → Option Addr × Nat} {L : Nat → Nat} {q : Nat → Ps} {x y z : Int} {rs1 rs2 rs3 : Bool} {ro1 ro2 ro3 : Option Addr} {rn1 rc1 rn2 rc2 rn3 rc3 : Nat} {B j : Nat} {v : Value} {W W2 : World} (_hB : Below W.heap.size W W2) (h : VregL6Side n cap A off c S L q x y z rs1 rs2 rs3 ro1 ro2 ro3 rn1 rc1 rn2 rc2 rn3 rc3 B j v W) : VregL6Side n cap A off c S L q x y z rs1 rs2 rs3 ro1 ro2 ro3 rn1 rc1 rn2 rc2 rn3 rc3 B j v W2 := by
 unfold VregL6Side at *
 split <;> simp only at h <;> first | exact h | trivial
set_option maxRecDepth 100000 in
set_option maxHeartbeats 4000000 in
theorem regL6Side {Q : Exit → Act → World → Prop} {n cap A off c : Nat} {S : Nat → Option Addr × Nat} {L : Nat → Nat} {q : Nat → Ps} {x y z : Int} {rs1 rs2 rs3 : Bool} {ro1 ro2 ro3 : Option Addr} {rn1 rc1 rn2 rc2 rn3 rc3 : Nat} {Bp : Nat} {rd1 rd2 rd3 : List Int} {w0 : World} {a0 : Act} {idq : Nat} {t0 t1 t2 t3 t4 t5 : TypeId} {q0 q1 q2 q3 q4 q5 : String}
   (hc : c < n) (hn : n ≤ 6) (hp : RgOk (L c) (q c)) (hS : SpIn w0 (S c).1 (L c) (q c)) (Nr1 : IsNum w0 rs1 ro1 rn1 rc1 rd1 x 8) (Nr2 : IsNum w0 rs2 ro2 rn2 rc2 rd2 y 8) (Nr3 : IsNum w0 rs3 ro3 rn3 rc3 rd3 z 8) (h0 : a0.tmps[0]? = some (.slice (some ⟨A, off, none⟩) n cap)) (h3 : a0.tmps[3]? = some (.pointer (some ⟨Bp, 0, none⟩))) (h6 : a0.tmps[6]? = some (.int .i64 (c : Int))) (k0 : w0.cell? ⟨A, off + c, none⟩ = some (.slice (S c).1 (L c) (S c).2)) (l0 : (⟨A, off + c, none⟩ : Addr).block < w0.heap.size) (k1 : w0.cell? ⟨Bp, 0, none⟩ = some (.bool rs1)) (l1 : (⟨Bp, 0, none⟩ : Addr).block < w0.heap.size) (k2 : w0.cell? ⟨Bp, 1, none⟩ = some (.slice ro1 rn1 rc1)) (l2 : (⟨Bp, 1, none⟩ : Addr).block < w0.heap.size) (k3 : w0.cell? ⟨Bp, 2, none⟩ = some (.bool rs2)) (l3 : (⟨Bp, 2, none⟩ : Addr).block < w0.heap.size) (k4 : w0.cell? ⟨Bp, 3, none⟩ = some (.slice ro2 rn2 rc2)) (l4 : (⟨Bp, 3, none⟩ : Addr).block < w0.heap.size) (k5 : w0.cell? ⟨Bp, 4, none⟩ = some (.bool rs3)) (l5 : (⟨Bp, 4, none⟩ : Addr).block < w0.heap.size) (k6 : w0.cell? ⟨Bp, 5, none⟩ = some (.slice ro3 rn3 rc3)) (l6 : (⟨Bp, 5, none⟩ : Addr).block < w0.heap.size) (hz : a0.tmps.size = 26)
   (hQ : ∀ aq W, aq.tmps.size = a0.tmps.size → aq.defers = a0.defers → (∀ e, e ∉ ([13, 14, 15, 16, 17, 18] : List Nat) → aq.tmps[e]? = a0.tmps[e]?) → VregL6Side n cap A off c S L q x y z rs1 rs2 rs3 ro1 ro2 ro3 rn1 rc1 rn2 rc2 rn3 rc3 w0.heap.size 5 (aq.tmps.getD 18 undef) W → Below w0.heap.size w0 W → Q .normal aq W) :
   (Code.region idq #[{ dst := some 13, op := Op.move (Operand.tmp 0), type := t0, pos := q0, after := #[], guard := none },
   { dst := some 14, op := Op.move (Operand.tmp 6), type := t1, pos := q1, after := #[], guard := none },
   { dst := some 15, op := Op.indexAddr 46 (Operand.tmp 13) (Operand.tmp 14), type := t2, pos := q2, after := #[{ on := 0, ground := Ground.data }, { on := 1, ground := Ground.data }], guard := none },
   { dst := some 16, op := Op.load 34 (Operand.tmp 15), type := t3, pos := q3, after := #[{ on := 2, ground := Ground.data }], guard := none },
   { dst := some 17, op := Op.load 62 (Operand.tmp 3), type := t4, pos := q4, after := #[], guard := none },
   { dst := some 18, op := Op.call { callee := Callee.value (Operand.func 28), args := #[Operand.tmp 16, Operand.tmp 17], argTypes := #[34, 62] }, type := t5, pos := q5, after := #[{ on := 3, ground := Ground.data }, { on := 4, ground := Ground.data }], guard := none }] true).wp Tryz.prog Q a0 w0 := by
 have hS : distS [some 13, some 14, some 15, some 16, some 17, some 18] = true := rfl
 refine wp_region_q (by kernel_rfl) w0.heap.size [some 13, some 14, some 15, some 16, some 17, some 18] (VregL6Side n cap A off c S L q x y z rs1 rs2 rs3 ro1 ro2 ro3 rn1 rc1 rn2 rc2 rn3 rc3 w0.heap.size) rfl ?_ ?_
 · intro Q lq aq W iq oq hJ hl ho hall
   have hJ2 := hJ
   obtain ⟨z1, z2, z3, z4, z5, z6, z7⟩ := hJ
   have g0 : aq.tmps.getD 0 undef = .slice (some ⟨A, off, none⟩) n cap := by rw [Array.getD_eq_getD_getElem?, z4 0 (by decide), h0]; rfl
   have g3 : aq.tmps.getD 3 undef = .pointer (some ⟨Bp, 0, none⟩) := by rw [Array.getD_eq_getD_getElem?, z4 3 (by decide), h3]; rfl
   have g6 : aq.tmps.getD 6 undef = .int .i64 (c : Int) := by rw [Array.getD_eq_getD_getElem?, z4 6 (by decide), h6]; rfl
   have c0 : W.cell? ⟨A, off + c, none⟩ = some (.slice (S c).1 (L c) (S c).2) := (z5.cell l0).trans k0
   have c1 : W.cell? ⟨Bp, 0, none⟩ = some (.bool rs1) := (z5.cell l1).trans k1
   have c2 : W.cell? ⟨Bp, 1, none⟩ = some (.slice ro1 rn1 rc1) := (z5.cell l2).trans k2
   have c3 : W.cell? ⟨Bp, 2, none⟩ = some (.bool rs2) := (z5.cell l3).trans k3
   have c4 : W.cell? ⟨Bp, 3, none⟩ = some (.slice ro2 rn2 rc2) := (z5.cell l4).trans k4
   have c5 : W.cell? ⟨Bp, 4, none⟩ = some (.bool rs3) := (z5.cell l5).trans k5
   have c6 : W.cell? ⟨Bp, 5, none⟩ = some (.slice ro3 rn3 rc3) := (z5.cell l6).trans k6
   match iq, ho with
   | 0, ho =>
     cases ho
     refine wpOp_of rfl rfl ?_
     have hK := fun (v : Value) (W2 : World) hW hT hv => hJ2.put hS 0 13 rfl (by omega) (W' := W2) hW hT v hv
     clear ho hall hl hQ
     generalize InvQ w0.heap.size [some 13, some 14, some 15, some 16, some 17, some 18] (VregL6Side n cap A off c S L q x y z rs1 rs2 rs3 ro1 ro2 ro3 rn1 rc1 rn2 rc2 rn3 rc3 w0.heap.size) w0 a0 (lq.setIfInBounds 0 true) = K at hK ⊢
     clear hJ2 hS z1 z2 z3 z4 z6 z7
     go_simp
     exact hK _ _ z5 (fun _ _ h => h) rfl
   | 1, ho =>
     cases ho
     refine wpOp_of rfl rfl ?_
     have hK := fun (v : Value) (W2 : World) hW hT hv => hJ2.put hS 1 14 rfl (by omega) (W' := W2) hW hT v hv
     clear ho hall hl hQ
     generalize InvQ w0.heap.size [some 13, some 14, some 15, some 16, some 17, some 18] (VregL6Side n cap A off c S L q x y z rs1 rs2 rs3 ro1 ro2 ro3 rn1 rc1 rn2 rc2 rn3 rc3 w0.heap.size) w0 a0 (lq.setIfInBounds 1 true) = K at hK ⊢
     clear hJ2 hS z1 z2 z3 z4 z6 z7
     go_simp
     exact hK _ _ z5 (fun _ _ h => h) rfl
   | 2, ho =>
     cases ho
     refine wpOp_of rfl rfl ?_
     have f0 : (aq.tmps.getD 13 undef) = .slice (some ⟨A, off, none⟩) n cap := z6 0 13 (hall { on := 0, ground := Ground.data } (by simp) rfl) rfl
     have f1 : (aq.tmps.getD 14 undef) = .int .i64 (c : Int) := z6 1 14 (hall { on := 1, ground := Ground.data } (by simp) rfl) rfl
     have hcI : (c : Int) < n := by omega
     have hnI : (n : Int) ≤ 6 := by omega
     have hK := fun (v : Value) (W2 : World) hW hT hv => hJ2.put hS 2 15 rfl (by omega) (W' := W2) hW hT v hv
     clear ho hall hl hQ
     generalize InvQ w0.heap.size [some 13, some 14, some 15, some 16, some 17, some 18] (VregL6Side n cap A off c S L q x y z rs1 rs2 rs3 ro1 ro2 ro3 rn1 rc1 rn2 rc2 rn3 rc3 w0.heap.size) w0 a0 (lq.setIfInBounds 2 true) = K at hK ⊢
     clear hJ2 hS z1 z2 z3 z4 z6 z7
     go_simp
     exact hK _ _ z5 (fun _ _ h => h) rfl
   | 3, ho =>
     cases ho
     refine wpOp_of rfl rfl ?_
     have f2 : (aq.tmps.getD 15 undef) = .pointer (some ⟨A, off + c, none⟩) := z6 2 15 (hall { on := 2, ground := Ground.data } (by simp) rfl) rfl
     have hK := fun (v : Value) (W2 : World) hW hT hv => hJ2.put hS 3 16 rfl (by omega) (W' := W2) hW hT v hv
     clear ho hall hl hQ
     generalize InvQ w0.heap.size [some 13, some 14, some 15, some 16, some 17, some 18] (VregL6Side n cap A off c S L q x y z rs1 rs2 rs3 ro1 ro2 ro3 rn1 rc1 rn2 rc2 rn3 rc3 w0.heap.size) w0 a0 (lq.setIfInBounds 3 true) = K at hK ⊢
     clear hJ2 hS z1 z2 z3 z4 z6 z7
     go_simp
     exact hK _ _ z5 (fun _ _ h => h) rfl
   | 4, ho =>
     cases ho
     refine wpOp_of rfl rfl ?_
     have hK := fun (v : Value) (W2 : World) hW hT hv => hJ2.put hS 4 17 rfl (by omega) (W' := W2) hW hT v hv
     clear ho hall hl hQ
     generalize InvQ w0.heap.size [some 13, some 14, some 15, some 16, some 17, some 18] (VregL6Side n cap A off c S L q x y z rs1 rs2 rs3 ro1 ro2 ro3 rn1 rc1 rn2 rc2 rn3 rc3 w0.heap.size) w0 a0 (lq.setIfInBounds 4 true) = K at hK ⊢
     clear hJ2 hS z1 z2 z3 z4 z6 z7
     go_simp
     exact hK _ _ z5 (fun _ _ h => h) rfl
   | 5, ho =>
     cases ho
     refine wpOp_of rfl rfl ?_
     have f3 : (aq.tmps.getD 16 undef) = .agg #[.slice (S c).1 (L c) (S c).2] := z6 3 16 (hall { on := 3, ground := Ground.data } (by simp) rfl) rfl
     have f4 : (aq.tmps.getD 17 undef) = .agg #[.bool rs1, .slice ro1 rn1 rc1, .bool rs2, .slice ro2 rn2 rc2, .bool rs3, .slice ro3 rn3 rc3] := z6 4 17 (hall { on := 4, ground := Ground.data } (by simp) rfl) rfl
     have hK := fun (v : Value) (W2 : World) hW hT hv => hJ2.put hS 5 18 rfl (by omega) (W' := W2) hW hT v hv
     clear ho hall hl hQ
     generalize InvQ w0.heap.size [some 13, some 14, some 15, some 16, some 17, some 18] (VregL6Side n cap A off c S L q x y z rs1 rs2 rs3 ro1 ro2 ro3 rn1 rc1 rn2 rc2 rn3 rc3 w0.heap.size) w0 a0 (lq.setIfInBounds 5 true) = K at hK ⊢
     clear hJ2 hS z1 z2 z3 z4 z6 z7
     go_simp
     refine (l5In_any (S c).1 (L c) (S c).2 (q c) rs1 rs2 rs3 ro1 ro2 ro3 rn1 rc1 rn2 rc2 rn3 rc3 rd1 rd2 rd3 x y z hp W (hS.step z5) (Nr1.below z5) (Nr2.below z5) (Nr3.below z5)).mono ?_
     rintro e v1 ⟨rfl, hBv⟩
     exact hK _ _ (z5.trans (hBv.mono z5.size)) (fun j v h => h.mono hBv) rfl
   | iq + 6, ho => simp at ho
 · intro lq aq W hJ hr
   obtain ⟨z1, z2, z3, z4, z5, z6, z7⟩ := hJ
   have hl := listed_of hr [0, 1, 2, 3, 4, 5] [] (by simp) (by kernel_rfl) (by rw [z1]; decide)
   exact hQ aq W z2 z3 (fun e he => z4 e (by simpa using he)) (z6 5 18 (hl 5 (by simp)) rfl) z5
set_option maxRecDepth 100000 in
set_option maxHeartbeats 8000000 in
theorem l6Side_any (ao : Option Addr) (n cap : Nat) (S : Nat → Option Addr × Nat) (L : Nat → Nat) (q : Nat → Ps) (rs1 rs2 rs3 : Bool) (ro1 ro2 ro3 : Option Addr) (rn1 rc1 rn2 rc2 rn3 rc3 : Nat) (rd1 rd2 rd3 : List Int) (x y z : Int) (hn : n ≤ 6) (hR : ∀ i, i < n → RgOk (L i) (q i)) (w : World) (hS : RgIn w ao n S L q) (Nr1 : IsNum w rs1 ro1 rn1 rc1 rd1 x 8) (Nr2 : IsNum w rs2 ro2 rn2 rc2 rd2 y 8) (Nr3 : IsNum w rs3 ro3 rn3 rc3 rd3 z 8) : Calls Tryz.prog 41 #[.slice ao n cap, .agg #[.bool rs1, .slice ro1 rn1 rc1, .bool rs2, .slice ro2 rn2 rc2, .bool rs3, .slice ro3 rn3 rc3]] w (VP (.int .i64 (lsR n L q x y z)) w) := by
 have A1 := Blk.new w [.bool rs1, .slice ro1 rn1 rc1, .bool rs2, .slice ro2 rn2 rc2, .bool rs3, .slice ro3 rn3 rc3] 62 rfl
 have HB0 : Below w.heap.size w (w.alloc (.cells #[.bool rs1, .slice ro1 rn1 rc1, .bool rs2, .slice ro2 rn2 rc2, .bool rs3, .slice ro3 rn3 rc3] 62)) := (Below.refl _ w).alloc (Nat.le_refl _) _
 have HR : Hid (∀ i, i < n → RgOk (L i) (q i)) := hR
 have hnI : (n : Int) ≤ 6 := by omega
 have HS : Hid (RgIn (w.alloc (.cells #[.bool rs1, .slice ro1 rn1 rc1, .bool rs2, .slice ro2 rn2 rc2, .bool rs3, .slice ro3 rn3 rc3] 62)) ao n S L q) := hS.step HB0
 replace Nr1 := Nr1.below HB0; replace Nr2 := Nr2.below HB0; replace Nr3 := Nr3.below HB0
 clear hS hR
 go_enter Tryz.func41, Tryz.ntmps41
 go_wp2_with fail
 generalize w.alloc (.cells #[.bool rs1, .slice ro1 rn1 rc1, .bool rs2, .slice ro2 rn2 rc2, .bool rs3, .slice ro3 rn3 rc3] 62) = W1 at *
 go_loopw [5, 6] (fun o i wr => ∃ c : Nat, c ≤ n ∧ i = .int .i64 c ∧ o = .bool (paL L q x y z c) ∧ onL L q x y z c = false ∧ Below W1.heap.size W1 wr) (fun _ i _ => n - (intOf i).toNat)
 case atStart => exact ⟨0, by omega, rfl, rfl, rfl, Below.refl _ _⟩
 case round =>
   obtain ⟨c, hc, rfl, rfl, hon, HB⟩ := hrel
   have HON : Hid (onL L q x y z c = false) := hon
   clear hon
   by_cases hcn : c < n
   · have hcI : (c : Int) < n := by omega
     obtain ⟨A, off, rfl, hA, q0, hsp⟩ := HS.out.step HB c hcn
     have D1 := A1.step HB
     have N1 := Nr1.below HB; have N2 := Nr2.below HB; have N3 := Nr3.below HB
     have HSP : Hid (SpIn wr (S c).1 (L c) (q c)) := hsp
     clear hsp
     go_upto_region 5 with fail
     go_cut [18] (fun zv wx => zv = .int .i64 (sdR (L c) (q c) x y z) ∧ Below wr.heap.size wr wx)
     case first =>
       refine regL6Side (n := n) (cap := cap) (A := A) (off := off) (c := c) (S := S) (L := L) (q := q) (x := x) (y := y) (z := z) (Bp := w.heap.size) hcn hn (HR.out c hcn) HSP.out N1 N2 N3 rfl rfl rfl q0 hA (D1.c 0 rfl) D1.lt (D1.c 1 rfl) D1.lt (D1.c 2 rfl) D1.lt (D1.c 3 rfl) D1.lt (D1.c 4 rfl) D1.lt (D1.c 5 rfl) D1.lt rfl ?_
       rintro ⟨tm, df⟩ Wz hz hdf hoff hx hBz
       simp only at hz hdf hoff hx
       change tm.getD 18 undef = .int .i64 (sdR (L c) (q c) x y z) at hx
       subst hdf
       have htm := tmps_fold [13, 14, 15, 16, 17, 18] tm _ hz hoff
       simp only [List.foldl, List.setIfInBounds_toArray, List.set_cons_zero, List.set_cons_succ, hx] at htm
       clear hz hoff
       generalize tm.getD 13 undef = u0, tm.getD 14 undef = u1, tm.getD 15 undef = u2, tm.getD 16 undef = u3, tm.getD 17 undef = u4 at htm
       clear hx
       subst htm
       go_wp2_with fail
       go_meet
       exact ⟨rfl, hBz⟩
     case rest =>
       obtain ⟨hq2, hBc⟩ := hcut
       subst hq2
       have HBN := HB.trans (hBc.mono HB.size)
       clear hBc HB D1 N1 N2 N3 HSP q0 hA
       rcases sdR_cases (L c) (q c) x y z with ⟨e1, e2⟩ | ⟨e1, e2, e3⟩ | ⟨e1, e2, e3⟩
       · have HO : Hid (lsR n L q x y z = 0) := by
           show _ = _
           unfold lsR
           rw [onL_mono (show c + 1 ≤ n by omega) (by rw [onL, e2, Bool.or_true])]
           rfl
         have HBF := HB0.trans (HBN.mono HB0.size)
         rw [e1]
         clear e1 e2
         go_wp2
         go_ret
         exact ⟨by rw [HO.out]; rfl, HBF⟩
       · have HN : Hid (onL L q x y z (c + 1) = false) := by show _ = _; rw [onL, HON.out, e2]; rfl
         have HX : Hid (paL L q x y z (c + 1) = !(paL L q x y z c)) := by show _ = _; rw [paL, e3, Bool.xor_true]
         rw [e1]
         clear e1 e2 e3
         generalize paL L q x y z c = zo at *
         go_wp2
         go_roundw
         case rel => exact ⟨c + 1, by omega, by go_num, by rw [HX.out], HN.out, HBN⟩
         case measure => simp [intOf]; omega
       · have HN : Hid (onL L q x y z (c + 1) = false) := by show _ = _; rw [onL, HON.out, e2]; rfl
         have HX : Hid (paL L q x y z (c + 1) = paL L q x y z c) := by show _ = _; rw [paL, e3, Bool.xor_false]
         rw [e1]
         clear e1 e2 e3
         generalize paL L q x y z c = zo at *
         go_wp2
         go_roundw
         case rel => exact ⟨c + 1, by omega, by go_num, by rw [HX.out], HN.out, HBN⟩
         case measure => simp [intOf]; omega
   · obtain rfl : c = n := by omega
     have HO : Hid (lsR c L q x y z = if paL L q x y z c = true then 1 else -1) := by
       show _ = _
       unfold lsR
       rw [HON.out]
       rfl
     have HBF := HB0.trans (HB.mono HB0.size)
     clear HB HS A1 Nr1 Nr2 Nr3 HON HR
     generalize paL L q x y z c = zo at *
     cases zo
     all_goals go_wp2
     all_goals go_ret
     all_goals exact ⟨by rw [HO.out]; rfl, HBF⟩
set_option maxRecDepth 100000 in
set_option maxHeartbeats 8000000 in
theorem layerSide_any (ao : Option Addr) (n cap : Nat) (S : Nat → Option Addr × Nat) (L : Nat → Nat) (q : Nat → Ps) (x y z : Int) (hn : n ≤ 6) (hR : ∀ i, i < n → RgOk (L i) (q i)) (hp : ptB x y z = true) (w : World) (hS : RgIn w ao n S L q) : Calls Tryz.prog 43 #[.slice ao n cap, PV x y z] w (VP (.int .i64 (lsR n L q x y z)) w) := by
 have A1 := Blk.new w [.int .u64 (ww3 x), .int .u64 (ww2 x), .int .u64 (ww1 x), .int .u64 (ww0 x), .int .u64 (ww3 y), .int .u64 (ww2 y), .int .u64 (ww1 y), .int .u64 (ww0 y), .int .u64 (ww3 z), .int .u64 (ww2 z), .int .u64 (ww1 z), .int .u64 (ww0 z)] 38 rfl
 have HB0 : Below w.heap.size w (w.alloc (.cells #[.int .u64 (ww3 x), .int .u64 (ww2 x), .int .u64 (ww1 x), .int .u64 (ww0 x), .int .u64 (ww3 y), .int .u64 (ww2 y), .int .u64 (ww1 y), .int .u64 (ww0 y), .int .u64 (ww3 z), .int .u64 (ww2 z), .int .u64 (ww1 z), .int .u64 (ww0 z)] 38)) := (Below.refl _ w).alloc (Nat.le_refl _) _
 have HR : Hid (∀ i, i < n → RgOk (L i) (q i)) := hR
 have HPT : Hid (ptB x y z = true) := hp
 have hnI : (n : Int) ≤ 6 := by omega
 have HS : Hid (RgIn (w.alloc (.cells #[.int .u64 (ww3 x), .int .u64 (ww2 x), .int .u64 (ww1 x), .int .u64 (ww0 x), .int .u64 (ww3 y), .int .u64 (ww2 y), .int .u64 (ww1 y), .int .u64 (ww0 y), .int .u64 (ww3 z), .int .u64 (ww2 z), .int .u64 (ww1 z), .int .u64 (ww0 z)] 38)) ao n S L q) := hS.step HB0
 clear hS hR hp
 go_enter Tryz.func43, Tryz.ntmps43
 go_wp2_with fail
 go_step3
 go_wp2_with fail
 go_step3
 go_wp2_with fail
 generalize w.alloc (.cells #[.int .u64 (ww3 x), .int .u64 (ww2 x), .int .u64 (ww1 x), .int .u64 (ww0 x), .int .u64 (ww3 y), .int .u64 (ww2 y), .int .u64 (ww1 y), .int .u64 (ww0 y), .int .u64 (ww3 z), .int .u64 (ww2 z), .int .u64 (ww1 z), .int .u64 (ww0 z)] 38) = W1 at *
 go_loopw [5, 10] (fun o i wr => ∃ c : Nat, c ≤ n ∧ i = .int .i64 c ∧ o = .int .i64 (sdS (paL L q x y z c)) ∧ onL L q x y z c = false ∧ Below W1.heap.size W1 wr) (fun _ i _ => n - (intOf i).toNat)
 case atStart => exact ⟨0, by omega, rfl, rfl, rfl, Below.refl _ _⟩
 case round =>
   obtain ⟨c, hc, rfl, rfl, hon, HB⟩ := hrel
   have HON : Hid (onL L q x y z c = false) := hon
   clear hon
   by_cases hcn : c < n
   · have hcI : (c : Int) < n := by omega
     obtain ⟨A, off, rfl, hA, q0, hsp⟩ := HS.out.step HB c hcn
     have hB1 := (Below.refl wr.heap.size wr).alloc (Nat.le_refl _) (.cells #[.slice (S c).1 (L c) (S c).2] 34)
     have B1 := Blk.new wr [.slice (S c).1 (L c) (S c).2] 34 rfl
     have D1 := (A1.step HB).step hB1
     have HBN := HB.trans (hB1.mono HB.size)
     have HSP : Hid (SpIn (wr.alloc (.cells #[.slice (S c).1 (L c) (S c).2] 34)) (S c).1 (L c) (q c)) := hsp.step hB1
     have RK := HR.out c hcn
     have SD := fun w h => side_any (S c).1 (L c) (S c).2 (q c) x y z RK.h3 RK.h12 RK.ok RK.one HPT.out w h
     clear hsp hB1 HB hA RK
     go_upto_region 5 with fail
     clear q0
     generalize wr.alloc (.cells #[.slice (S c).1 (L c) (S c).2] 34) = W5 at *
     generalize wr.heap.size = gr at *
     have b0 := B1.c 0 rfl; obtain ⟨d0, d1, d2, d3, d4, d5, d6, d7, d8, d9, d10, d11⟩ := D1.cs12
     go_wp2_with fail
     refine (SD _ HSP.out).mono ?_
     rintro e w2 ⟨rfl, hB⟩
     replace HBN := HBN.trans (hB.mono HBN.size)
     clear hB SD HSP b0 d0 d1 d2 d3 d4 d5 d6 d7 d8 d9 d10 d11 B1 D1
     rcases sdR_cases (L c) (q c) x y z with ⟨e1, e2⟩ | ⟨e1, e2, e3⟩ | ⟨e1, e2, e3⟩
     · have HO : Hid (lsR n L q x y z = 0) := by
         show _ = _
         unfold lsR
         rw [onL_mono (show c + 1 ≤ n by omega) (by rw [onL, e2, Bool.or_true])]
         rfl
       have HBF := HB0.trans (HBN.mono HB0.size)
       rw [e1]
       clear e1 e2
       go_wp2
       go_ret
       exact ⟨by rw [HO.out]; rfl, HBF⟩
     · have HN : Hid (onL L q x y z (c + 1) = false) := by show _ = _; rw [onL, HON.out, e2]; rfl
       have HX : Hid (paL L q x y z (c + 1) = !(paL L q x y z c)) := by show _ = _; rw [paL, e3, Bool.xor_true]
       rw [e1]
       clear e1 e2 e3
       have OS := otherS_det (sdS (paL L q x y z c))
       rw [sdS_not] at OS
       go_wp2_with fail
       refine (OS _).mono ?_
       rintro e w3 ⟨rfl, hB⟩
       replace HBN := HBN.trans (hB.mono HBN.size)
       clear hB OS
       go_wp2
       go_roundw
       case rel => exact ⟨c + 1, by omega, by go_num, by rw [HX.out], HN.out, HBN⟩
       case measure => simp [intOf]; omega
     · have HN : Hid (onL L q x y z (c + 1) = false) := by show _ = _; rw [onL, HON.out, e2]; rfl
       have HX : Hid (paL L q x y z (c + 1) = paL L q x y z c) := by show _ = _; rw [paL, e3, Bool.xor_false]
       rw [e1]
       clear e1 e2 e3
       go_wp2
       go_roundw
       case rel => exact ⟨c + 1, by omega, by go_num, by rw [HX.out], HN.out, HBN⟩
       case measure => simp [intOf]; omega
   · obtain rfl : c = n := by omega
     have HO : Hid (lsR c L q x y z = sdS (paL L q x y z c)) := by
       show _ = _
       unfold lsR sdS
       rw [HON.out]
       rfl
     have HBF := HB0.trans (HB.mono HB0.size)
     clear HB HS A1 HON HR
     go_wp2
     go_ret
     exact ⟨by rw [HO.out]; rfl, HBF⟩
set_option maxRecDepth 100000 in
set_option maxHeartbeats 8000000 in
theorem specLayerSide_any (ao : Option Addr) (n cap : Nat) (S : Nat → Option Addr × Nat) (L : Nat → Nat) (q : Nat → Ps) (x y z : Int) (hn : n ≤ 1048576) (hL : ∀ i, i < n → L i ≤ 1048576) (tx : told x = true) (ty : told y = true) (tz : told z = true) (w : World) (hS : RgIn w ao n S L q) : Calls Tryz.prog 17 #[.slice ao n cap, PV x y z] w (VP (.int .i64 (lsV n L q x y z)) w) := by
 have A1 := Blk.new w [.int .u64 (ww3 x), .int .u64 (ww2 x), .int .u64 (ww1 x), .int .u64 (ww0 x), .int .u64 (ww3 y), .int .u64 (ww2 y), .int .u64 (ww1 y), .int .u64 (ww0 y), .int .u64 (ww3 z), .int .u64 (ww2 z), .int .u64 (ww1 z), .int .u64 (ww0 z)] 38 rfl
 have HB : Below w.heap.size w (w.alloc (.cells #[.int .u64 (ww3 x), .int .u64 (ww2 x), .int .u64 (ww1 x), .int .u64 (ww0 x), .int .u64 (ww3 y), .int .u64 (ww2 y), .int .u64 (ww1 y), .int .u64 (ww0 y), .int .u64 (ww3 z), .int .u64 (ww2 z), .int .u64 (ww1 z), .int .u64 (ww0 z)] 38)) := (Below.refl _ w).alloc (Nat.le_refl _) _
 have HS := hS.step HB
 have O1 := fun w h => l6Ok_any ao n cap S L q hn hL w h
 have O2 := specPointOk_det x y z tx ty tz
 have hv : Hid (lsV n L q x y z = if lyB n L q = true ∧ ptB x y z = true then lsR n L q x y z else 2) := rfl
 clear hS hL
 generalize lsV n L q x y z = o at *
 go_enter Tryz.func17, Tryz.ntmps17
 go_upto_region 1 with fail
 generalize w.alloc (.cells #[.int .u64 (ww3 x), .int .u64 (ww2 x), .int .u64 (ww1 x), .int .u64 (ww0 x), .int .u64 (ww3 y), .int .u64 (ww2 y), .int .u64 (ww1 y), .int .u64 (ww0 y), .int .u64 (ww3 z), .int .u64 (ww2 z), .int .u64 (ww1 z), .int .u64 (ww0 z)] 38) = W at *
 go_wp2_with fail
 refine (O1 _ HS).mono ?_
 rintro e w1 ⟨rfl, hB⟩
 replace HB := HB.trans (hB.mono HB.size); replace HS := HS.step hB; replace A1 := A1.step hB
 clear hB O1
 cases h1 : lyB n L q
 · have hv2 : Hid (o = 2) := by show _ = _; rw [hv.out, if_neg (fun h => by rw [h1] at h; exact absurd h.1 (by simp))]
   clear h1 hv HS A1 O2
   go_wp2
   go_ret
   exact ⟨by rw [hv2.out]; rfl, HB⟩
 · have H1 : Hid (lyB n L q = true) := h1
   clear h1
   obtain ⟨b0, b1, b2, b3, b4, b5, b6, b7, b8, b9, b10, b11⟩ := A1.cs12
   go_wp2_with fail
   refine (O2 _).mono ?_
   rintro e w2 ⟨rfl, hB⟩
   replace HB := HB.trans (hB.mono HB.size); replace HS := HS.step hB; replace A1 := A1.step hB
   clear hB O2 b0 b1 b2 b3 b4 b5 b6 b7 b8 b9 b10 b11
   cases h2 : ptB x y z
   · have hv2 : Hid (o = 2) := by show _ = _; rw [hv.out, if_neg (fun h => by rw [h2] at h; exact absurd h.2 (by simp))]
     clear h2 hv HS A1
     go_wp2
     go_ret
     exact ⟨by rw [hv2.out]; rfl, HB⟩
   · have hv2 : Hid (o = lsR n L q x y z) := by show _ = _; rw [hv.out, if_pos ⟨H1.out, h2⟩]
     have H2 : Hid (ptB x y z = true) := h2
     obtain ⟨h6, hR⟩ := lyB_ok H1.out
     clear h2 hv
     obtain ⟨b0, b1, b2, b3, b4, b5, b6, b7, b8, b9, b10, b11⟩ := A1.cs12
     have OF := l3Of_det x y z tx ty tz
     have SI := fun a1 a2 a3 a4 a5 a6 a7 a8 a9 b1 b2 b3 e1 e2 e3 w h k1 k2 k3 => l6Side_any ao n cap S L q a1 a2 a3 a4 a5 a6 a7 a8 a9 b1 b2 b3 e1 e2 e3 x y z h6 hR w h k1 k2 k3
     clear hR
     go_wp2_with fail
     refine (OF _).mono ?_
     rintro e w3 ⟨rs1, ro1, rn1, rc1, rd1, rs2, ro2, rn2, rc2, rd2, rs3, ro3, rn3, rc3, rd3, rfl, N1, N2, N3, hB⟩
     replace HB := HB.trans (hB.mono HB.size); replace HS := HS.step hB
     clear hB OF A1 b0 b1 b2 b3 b4 b5 b6 b7 b8 b9 b10 b11
     go_wp2_with fail
     refine (SI _ _ _ _ _ _ _ _ _ _ _ _ _ _ _ _ HS N1 N2 N3).mono ?_
     rintro e w4 ⟨rfl, hB⟩
     replace HB := HB.trans (hB.mono HB.size)
     clear hB SI HS N1 N2 N3
     go_wp2
     go_ret
     exact ⟨by rw [hv2.out]; rfl, HB⟩
set_option maxRecDepth 100000 in
set_option maxHeartbeats 8000000 in
theorem implLayerSide_any (ao : Option Addr) (n cap : Nat) (S : Nat → Option Addr × Nat) (L : Nat → Nat) (q : Nat → Ps) (x y z : Int) (hn : n ≤ 1048576) (hL : ∀ i, i < n → L i ≤ 1048576) (hc1 : n ≤ cap) (hc2 : cap ≤ 9223372036854775807) (hC : ∀ i, i < n → L i ≤ (S i).2 ∧ (S i).2 ≤ 9223372036854775807) (tx : told x = true) (ty : told y = true) (tz : told z = true) (w : World) (hS : RgIn w ao n S L q) : Calls Tryz.prog 19 #[.slice ao n cap, PV x y z] w (VP (.int .i64 (lsV n L q x y z)) w) := by
 have A1 := Blk.new w [.int .u64 (ww3 x), .int .u64 (ww2 x), .int .u64 (ww1 x), .int .u64 (ww0 x), .int .u64 (ww3 y), .int .u64 (ww2 y), .int .u64 (ww1 y), .int .u64 (ww0 y), .int .u64 (ww3 z), .int .u64 (ww2 z), .int .u64 (ww1 z), .int .u64 (ww0 z)] 38 rfl
 have HB : Below w.heap.size w (w.alloc (.cells #[.int .u64 (ww3 x), .int .u64 (ww2 x), .int .u64 (ww1 x), .int .u64 (ww0 x), .int .u64 (ww3 y), .int .u64 (ww2 y), .int .u64 (ww1 y), .int .u64 (ww0 y), .int .u64 (ww3 z), .int .u64 (ww2 z), .int .u64 (ww1 z), .int .u64 (ww0 z)] 38)) := (Below.refl _ w).alloc (Nat.le_refl _) _
 have HS := hS.step HB
 have O1 := fun w h => isLayer_any ao n cap S L q hn hc1 hc2 hL hC w h
 have O2 := pright_det x y z tx ty tz
 have hv : Hid (lsV n L q x y z = if lyB n L q = true ∧ ptB x y z = true then lsR n L q x y z else 2) := rfl
 clear hS hL hC
 generalize lsV n L q x y z = o at *
 go_enter Tryz.func19, Tryz.ntmps19
 go_upto_region 1 with fail
 generalize w.alloc (.cells #[.int .u64 (ww3 x), .int .u64 (ww2 x), .int .u64 (ww1 x), .int .u64 (ww0 x), .int .u64 (ww3 y), .int .u64 (ww2 y), .int .u64 (ww1 y), .int .u64 (ww0 y), .int .u64 (ww3 z), .int .u64 (ww2 z), .int .u64 (ww1 z), .int .u64 (ww0 z)] 38) = W at *
 go_wp2_with fail
 refine (O1 _ HS).mono ?_
 rintro e w1 ⟨rfl, hB⟩
 replace HB := HB.trans (hB.mono HB.size); replace HS := HS.step hB; replace A1 := A1.step hB
 clear hB O1
 cases h1 : lyB n L q
 · have hv2 : Hid (o = 2) := by show _ = _; rw [hv.out, if_neg (fun h => by rw [h1] at h; exact absurd h.1 (by simp))]
   clear h1 hv HS A1 O2
   go_wp2
   go_ret
   exact ⟨by rw [hv2.out]; rfl, HB⟩
 · have H1 : Hid (lyB n L q = true) := h1
   clear h1
   obtain ⟨b0, b1, b2, b3, b4, b5, b6, b7, b8, b9, b10, b11⟩ := A1.cs12
   go_wp2_with fail
   refine (O2 _).mono ?_
   rintro e w2 ⟨rfl, hB⟩
   replace HB := HB.trans (hB.mono HB.size); replace HS := HS.step hB; replace A1 := A1.step hB
   clear hB O2 b0 b1 b2 b3 b4 b5 b6 b7 b8 b9 b10 b11
   cases h2 : ptB x y z
   · have hv2 : Hid (o = 2) := by show _ = _; rw [hv.out, if_neg (fun h => by rw [h2] at h; exact absurd h.2 (by simp))]
     clear h2 hv HS A1
     go_wp2
     go_ret
     exact ⟨by rw [hv2.out]; rfl, HB⟩
   · have hv2 : Hid (o = lsR n L q x y z) := by show _ = _; rw [hv.out, if_pos ⟨H1.out, h2⟩]
     have H2 : Hid (ptB x y z = true) := h2
     obtain ⟨h6, hR⟩ := lyB_ok H1.out
     clear h2 hv
     obtain ⟨b0, b1, b2, b3, b4, b5, b6, b7, b8, b9, b10, b11⟩ := A1.cs12
     have SI := fun w h => layerSide_any ao n cap S L q x y z h6 hR H2.out w h
     clear hR
     go_wp2_with fail
     refine (SI _ HS).mono ?_
     rintro e w4 ⟨rfl, hB⟩
     replace HB := HB.trans (hB.mono HB.size)
     clear hB SI HS A1 b0 b1 b2 b3 b4 b5 b6 b7 b8 b9 b10 b11
     go_wp2
     go_ret
     exact ⟨by rw [hv2.out]; rfl, HB⟩
def RgW (n : Nat) (L : Nat → Nat) (q : Nat → Ps) (v : Value) (W : World) : Prop := ∃ g S, v = .slice (some ⟨g, 0, none⟩) n n ∧ RgIn W (some ⟨g, 0, none⟩) n S L q ∧ ∀ i, (S i).2 = L i
theorem RgW.step {n : Nat} {L : Nat → Nat} {q : Nat → Ps} {v : Value} {W W2 : World} (h : RgW n L q v W) (hB : Below W.heap.size W W2) : RgW n L q v W2 := by
 obtain ⟨g, S, e, hs, hc⟩ := h
 exact ⟨g, S, e, hs.step hB, hc⟩
def VregLawLayer5 (ao : Option Addr) (n cap : Nat) (L : Nat → Nat) (q : Nat → Ps) (x y z : Int) (_B : Nat) : Nat → Value → World → Prop
 | 0, v, _ => v = .slice ao n cap
 | 1, v, W => RgW n L q v W
 | 2, v, _ => v = PV x y z
 | 3, v, _ => v = PV x y z
 | 4, v, _ => v = .int .i64 (lsV n L q x y z)
 | 5, v, _ => v = .int .i64 (lsV n L q x y z)
 | _, _, _ => True
theorem VregLawLayer5.mono {ao : Option Addr} {n cap : Nat} {L : Nat → Nat} {q : Nat → Ps} {x y z : Int} {B j : Nat} {v : Value} {W W2 : World} (hB : Below W.heap.size W W2) (h : VregLawLayer5 ao n cap L q x y z B j v W) : VregLawLayer5 ao n cap L q x y z B j v W2 := by
 unfold VregLawLayer5 at *
 split <;> simp only at h <;> first | exact h | exact h.step hB | trivial
set_option maxRecDepth 100000 in
set_option maxHeartbeats 4000000 in
theorem regLawLayer5 {Q : Exit → Act → World → Prop} {ao : Option Addr} {n cap : Nat} {L : Nat → Nat} {q : Nat → Ps} {x y z : Int} {S : Nat → Option Addr × Nat} {B2 : Nat} {w0 : World} {a0 : Act} {idq : Nat} {t0 t1 t2 t3 t4 t5 : TypeId} {q0 q1 q2 q3 q4 q5 : String}
   (hn : n ≤ 1048576) (hL : ∀ i, i < n → L i ≤ 1048576) (hS : RgIn w0 ao n S L q) (tx : told x = true) (ty : told y = true) (tz : told z = true) (h0 : a0.tmps[0]? = some (.slice ao n cap)) (h3 : a0.tmps[3]? = some (.pointer (some ⟨B2, 0, none⟩))) (k0 : w0.cell? ⟨B2, 0, none⟩ = some (.int .u64 (ww3 x))) (l0 : (⟨B2, 0, none⟩ : Addr).block < w0.heap.size) (k1 : w0.cell? ⟨B2, 1, none⟩ = some (.int .u64 (ww2 x))) (l1 : (⟨B2, 1, none⟩ : Addr).block < w0.heap.size) (k2 : w0.cell? ⟨B2, 2, none⟩ = some (.int .u64 (ww1 x))) (l2 : (⟨B2, 2, none⟩ : Addr).block < w0.heap.size) (k3 : w0.cell? ⟨B2, 3, none⟩ = some (.int .u64 (ww0 x))) (l3 : (⟨B2, 3, none⟩ : Addr).block < w0.heap.size) (k4 : w0.cell? ⟨B2, 4, none⟩ = some (.int .u64 (ww3 y))) (l4 : (⟨B2, 4, none⟩ : Addr).block < w0.heap.size) (k5 : w0.cell? ⟨B2, 5, none⟩ = some (.int .u64 (ww2 y))) (l5 : (⟨B2, 5, none⟩ : Addr).block < w0.heap.size) (k6 : w0.cell? ⟨B2, 6, none⟩ = some (.int .u64 (ww1 y))) (l6 : (⟨B2, 6, none⟩ : Addr).block < w0.heap.size) (k7 : w0.cell? ⟨B2, 7, none⟩ = some (.int .u64 (ww0 y))) (l7 : (⟨B2, 7, none⟩ : Addr).block < w0.heap.size) (k8 : w0.cell? ⟨B2, 8, none⟩ = some (.int .u64 (ww3 z))) (l8 : (⟨B2, 8, none⟩ : Addr).block < w0.heap.size) (k9 : w0.cell? ⟨B2, 9, none⟩ = some (.int .u64 (ww2 z))) (l9 : (⟨B2, 9, none⟩ : Addr).block < w0.heap.size) (k10 : w0.cell? ⟨B2, 10, none⟩ = some (.int .u64 (ww1 z))) (l10 : (⟨B2, 10, none⟩ : Addr).block < w0.heap.size) (k11 : w0.cell? ⟨B2, 11, none⟩ = some (.int .u64 (ww0 z))) (l11 : (⟨B2, 11, none⟩ : Addr).block < w0.heap.size) (hz : a0.tmps.size = 33)
   (hQ : ∀ aq W, aq.tmps.size = a0.tmps.size → aq.defers = a0.defers → (∀ e, e ∉ ([14, 15, 16, 17, 18, 6] : List Nat) → aq.tmps[e]? = a0.tmps[e]?) → VregLawLayer5 ao n cap L q x y z w0.heap.size 5 (aq.tmps.getD 6 undef) W → Below w0.heap.size w0 W → Q .normal aq W) :
   (Code.region idq #[{ dst := some 14, op := Op.move (Operand.tmp 0), type := t0, pos := q0, after := #[], guard := none },
   { dst := some 15, op := Op.call { callee := Callee.value (Operand.func 18), args := #[Operand.tmp 14], argTypes := #[43] }, type := t1, pos := q1, after := #[{ on := 0, ground := Ground.data }], guard := none },
   { dst := some 16, op := Op.load 29 (Operand.tmp 3), type := t2, pos := q2, after := #[], guard := none },
   { dst := some 17, op := Op.call { callee := Callee.value (Operand.func 11), args := #[Operand.tmp 16], argTypes := #[29] }, type := t3, pos := q3, after := #[{ on := 2, ground := Ground.data }, { on := 1, ground := Ground.chain }], guard := none },
   { dst := some 18, op := Op.call { callee := Callee.value (Operand.func 17), args := #[Operand.tmp 15, Operand.tmp 17], argTypes := #[46, 38] }, type := t4, pos := q4, after := #[{ on := 1, ground := Ground.data }, { on := 3, ground := Ground.data }, { on := 3, ground := Ground.chain }], guard := none },
   { dst := some 6, op := Op.assign (Operand.tmp 18), type := t5, pos := q5, after := #[{ on := 4, ground := Ground.data }, { on := 4, ground := Ground.chain }, { on := 0, ground := Ground.phase }, { on := 1, ground := Ground.phase }, { on := 2, ground := Ground.phase }, { on := 3, ground := Ground.phase }, { on := 4, ground := Ground.phase }], guard := none }] true).wp Tryz.prog Q a0 w0 := by
 have hS : distS [some 14, some 15, some 16, some 17, some 18, some 6] = true := rfl
 refine wp_region_q (by kernel_rfl) w0.heap.size [some 14, some 15, some 16, some 17, some 18, some 6] (VregLawLayer5 ao n cap L q x y z w0.heap.size) rfl ?_ ?_
 · intro Q lq aq W iq oq hJ hl ho hall
   have hJ2 := hJ
   obtain ⟨z1, z2, z3, z4, z5, z6, z7⟩ := hJ
   have g0 : aq.tmps.getD 0 undef = .slice ao n cap := by rw [Array.getD_eq_getD_getElem?, z4 0 (by decide), h0]; rfl
   have g3 : aq.tmps.getD 3 undef = .pointer (some ⟨B2, 0, none⟩) := by rw [Array.getD_eq_getD_getElem?, z4 3 (by decide), h3]; rfl
   have c0 : W.cell? ⟨B2, 0, none⟩ = some (.int .u64 (ww3 x)) := (z5.cell l0).trans k0
   have c1 : W.cell? ⟨B2, 1, none⟩ = some (.int .u64 (ww2 x)) := (z5.cell l1).trans k1
   have c2 : W.cell? ⟨B2, 2, none⟩ = some (.int .u64 (ww1 x)) := (z5.cell l2).trans k2
   have c3 : W.cell? ⟨B2, 3, none⟩ = some (.int .u64 (ww0 x)) := (z5.cell l3).trans k3
   have c4 : W.cell? ⟨B2, 4, none⟩ = some (.int .u64 (ww3 y)) := (z5.cell l4).trans k4
   have c5 : W.cell? ⟨B2, 5, none⟩ = some (.int .u64 (ww2 y)) := (z5.cell l5).trans k5
   have c6 : W.cell? ⟨B2, 6, none⟩ = some (.int .u64 (ww1 y)) := (z5.cell l6).trans k6
   have c7 : W.cell? ⟨B2, 7, none⟩ = some (.int .u64 (ww0 y)) := (z5.cell l7).trans k7
   have c8 : W.cell? ⟨B2, 8, none⟩ = some (.int .u64 (ww3 z)) := (z5.cell l8).trans k8
   have c9 : W.cell? ⟨B2, 9, none⟩ = some (.int .u64 (ww2 z)) := (z5.cell l9).trans k9
   have c10 : W.cell? ⟨B2, 10, none⟩ = some (.int .u64 (ww1 z)) := (z5.cell l10).trans k10
   have c11 : W.cell? ⟨B2, 11, none⟩ = some (.int .u64 (ww0 z)) := (z5.cell l11).trans k11
   match iq, ho with
   | 0, ho =>
     cases ho
     refine wpOp_of rfl rfl ?_
     have hK := fun (v : Value) (W2 : World) hW hT hv => hJ2.put hS 0 14 rfl (by omega) (W' := W2) hW hT v hv
     clear ho hall hl hQ
     generalize InvQ w0.heap.size [some 14, some 15, some 16, some 17, some 18, some 6] (VregLawLayer5 ao n cap L q x y z w0.heap.size) w0 a0 (lq.setIfInBounds 0 true) = K at hK ⊢
     clear hJ2 hS z1 z2 z3 z4 z6 z7
     go_simp
     exact hK _ _ z5 (fun _ _ h => h) rfl
   | 1, ho =>
     cases ho
     refine wpOp_of rfl rfl ?_
     have f0 : (aq.tmps.getD 14 undef) = .slice ao n cap := z6 0 14 (hall { on := 0, ground := Ground.data } (by simp) rfl) rfl
     have hK := fun (v : Value) (W2 : World) hW hT hv => hJ2.put hS 1 15 rfl (by omega) (W' := W2) hW hT v hv
     clear ho hall hl hQ
     generalize InvQ w0.heap.size [some 14, some 15, some 16, some 17, some 18, some 6] (VregLawLayer5 ao n cap L q x y z w0.heap.size) w0 a0 (lq.setIfInBounds 1 true) = K at hK ⊢
     clear hJ2 hS z1 z2 z3 z4 z6 z7
     go_simp
     refine (toRingS_any ao n cap S L q hn hL W (hS.step z5)).mono ?_
     rintro e v1 ⟨g, S2, rfl, R1, hc2, -, hBv⟩
     exact hK _ _ (z5.trans (hBv.mono z5.size)) (fun j v h => h.mono hBv) ⟨g, S2, rfl, R1, hc2⟩
   | 2, ho =>
     cases ho
     refine wpOp_of rfl rfl ?_
     have hK := fun (v : Value) (W2 : World) hW hT hv => hJ2.put hS 2 16 rfl (by omega) (W' := W2) hW hT v hv
     clear ho hall hl hQ
     generalize InvQ w0.heap.size [some 14, some 15, some 16, some 17, some 18, some 6] (VregLawLayer5 ao n cap L q x y z w0.heap.size) w0 a0 (lq.setIfInBounds 2 true) = K at hK ⊢
     clear hJ2 hS z1 z2 z3 z4 z6 z7
     go_simp
     exact hK _ _ z5 (fun _ _ h => h) rfl
   | 3, ho =>
     cases ho
     refine wpOp_of rfl rfl ?_
     have f2 : (aq.tmps.getD 16 undef) = PV x y z := z6 2 16 (hall { on := 2, ground := Ground.data } (by simp) rfl) rfl
     have hK := fun (v : Value) (W2 : World) hW hT hv => hJ2.put hS 3 17 rfl (by omega) (W' := W2) hW hT v hv
     clear ho hall hl hQ
     generalize InvQ w0.heap.size [some 14, some 15, some 16, some 17, some 18, some 6] (VregLawLayer5 ao n cap L q x y z w0.heap.size) w0 a0 (lq.setIfInBounds 3 true) = K at hK ⊢
     clear hJ2 hS z1 z2 z3 z4 z6 z7
     go_simp
     refine (toPoint_det x y z W).mono ?_
     rintro e v1 ⟨rfl, hBv⟩
     exact hK _ _ (z5.trans (hBv.mono z5.size)) (fun j v h => h.mono hBv) rfl
   | 4, ho =>
     cases ho
     refine wpOp_of rfl rfl ?_
     have f1 : RgW n L q (aq.tmps.getD 15 undef) W := z6 1 15 (hall { on := 1, ground := Ground.data } (by simp) rfl) rfl
     obtain ⟨g1, S1, ge, G1, -⟩ := f1
     have f3 : (aq.tmps.getD 17 undef) = PV x y z := z6 3 17 (hall { on := 3, ground := Ground.data } (by simp) rfl) rfl
     have hK := fun (v : Value) (W2 : World) hW hT hv => hJ2.put hS 4 18 rfl (by omega) (W' := W2) hW hT v hv
     clear ho hall hl hQ
     generalize InvQ w0.heap.size [some 14, some 15, some 16, some 17, some 18, some 6] (VregLawLayer5 ao n cap L q x y z w0.heap.size) w0 a0 (lq.setIfInBounds 4 true) = K at hK ⊢
     clear hJ2 hS z1 z2 z3 z4 z6 z7
     go_simp
     refine (specLayerSide_any (some ⟨g1, 0, none⟩) n n S1 L q x y z hn hL tx ty tz W G1).mono ?_
     rintro e v1 ⟨rfl, hBv⟩
     exact hK _ _ (z5.trans (hBv.mono z5.size)) (fun j v h => h.mono hBv) rfl
   | 5, ho =>
     cases ho
     refine wpOp_of rfl rfl ?_
     have f4 : (aq.tmps.getD 18 undef) = .int .i64 (lsV n L q x y z) := z6 4 18 (hall { on := 4, ground := Ground.data } (by simp) rfl) rfl
     have hK := fun (v : Value) (W2 : World) hW hT hv => hJ2.put hS 5 6 rfl (by omega) (W' := W2) hW hT v hv
     clear ho hall hl hQ
     generalize InvQ w0.heap.size [some 14, some 15, some 16, some 17, some 18, some 6] (VregLawLayer5 ao n cap L q x y z w0.heap.size) w0 a0 (lq.setIfInBounds 5 true) = K at hK ⊢
     clear hJ2 hS z1 z2 z3 z4 z6 z7
     go_simp
     exact hK _ _ z5 (fun _ _ h => h) rfl
   | iq + 6, ho => simp at ho
 · intro lq aq W hJ hr
   obtain ⟨z1, z2, z3, z4, z5, z6, z7⟩ := hJ
   have hl := listed_of hr [0, 1, 2, 3, 4, 5] [] (by simp) (by kernel_rfl) (by rw [z1]; decide)
   exact hQ aq W z2 z3 (fun e he => z4 e (by simpa using he)) (z6 5 6 (hl 5 (by simp)) rfl) z5
set_option maxRecDepth 100000 in
set_option maxHeartbeats 8000000 in
theorem lawLayerSide_any (ao : Option Addr) (n cap : Nat) (S : Nat → Option Addr × Nat) (L : Nat → Nat) (q : Nat → Ps) (x y z : Int) (hn : n ≤ 9223372036854775807) (hL : ∀ i, i < n → L i ≤ 9223372036854775807) (tx : told x = true) (ty : told y = true) (tz : told z = true) (w : World) (hS : RgIn w ao n S L q) : Calls Tryz.prog 5 #[.slice ao n cap, PV x y z] w (BoolP true w) := by
 have A1 := Blk.new w [.int .u64 (ww3 x), .int .u64 (ww2 x), .int .u64 (ww1 x), .int .u64 (ww0 x), .int .u64 (ww3 y), .int .u64 (ww2 y), .int .u64 (ww1 y), .int .u64 (ww0 y), .int .u64 (ww3 z), .int .u64 (ww2 z), .int .u64 (ww1 z), .int .u64 (ww0 z)] 29 rfl
 have HB : Below w.heap.size w (w.alloc (.cells #[.int .u64 (ww3 x), .int .u64 (ww2 x), .int .u64 (ww1 x), .int .u64 (ww0 x), .int .u64 (ww3 y), .int .u64 (ww2 y), .int .u64 (ww1 y), .int .u64 (ww0 y), .int .u64 (ww3 z), .int .u64 (ww2 z), .int .u64 (ww1 z), .int .u64 (ww0 z)] 29)) := (Below.refl _ w).alloc (Nat.le_refl _) _
 have HS := hS.step HB
 have SZ := fun w h => szRingS_any 1048576 (by omega) (by omega) ao n cap S L q hn hL w h
 clear hS hL hn
 go_enter Tryz.func5, Tryz.ntmps5
 go_upto_region 2 with fail
 generalize w.alloc (.cells #[.int .u64 (ww3 x), .int .u64 (ww2 x), .int .u64 (ww1 x), .int .u64 (ww0 x), .int .u64 (ww3 y), .int .u64 (ww2 y), .int .u64 (ww1 y), .int .u64 (ww0 y), .int .u64 (ww3 z), .int .u64 (ww2 z), .int .u64 (ww1 z), .int .u64 (ww0 z)] 29) = W at *
 go_wp2_with fail
 refine (SZ _ HS).mono ?_
 rintro e w1 ⟨zl, rfl, z0, z1, hzl, hB⟩
 replace HB := HB.trans (hB.mono HB.size); replace HS := HS.step hB; replace A1 := A1.step hB
 clear hB SZ
 by_cases hz0 : 0 ≤ zl
 · obtain ⟨hn, hL⟩ := hzl hz0
   have HL : Hid (∀ i, i < n → L i ≤ 1048576) := hL
   clear hzl hL
   go_upto_region 5 with fail
   go_cut [6] (fun zv wx => zv = .int .i64 (lsV n L q x y z) ∧ Below w1.heap.size w1 wx)
   case first =>
     refine regLawLayer5 (ao := ao) (n := n) (cap := cap) (L := L) (q := q) (x := x) (y := y) (z := z) (S := S) (B2 := w.heap.size) hn HL.out HS tx ty tz rfl rfl (A1.c 0 rfl) A1.lt (A1.c 1 rfl) A1.lt (A1.c 2 rfl) A1.lt (A1.c 3 rfl) A1.lt (A1.c 4 rfl) A1.lt (A1.c 5 rfl) A1.lt (A1.c 6 rfl) A1.lt (A1.c 7 rfl) A1.lt (A1.c 8 rfl) A1.lt (A1.c 9 rfl) A1.lt (A1.c 10 rfl) A1.lt (A1.c 11 rfl) A1.lt rfl ?_
     rintro ⟨tm, df⟩ Wz hz hdf hoff hx hBz
     simp only at hz hdf hoff hx
     change tm.getD 6 undef = .int .i64 (lsV n L q x y z) at hx
     subst hdf
     have htm := tmps_fold [14, 15, 16, 17, 18, 6] tm _ hz hoff
     simp only [List.foldl, List.setIfInBounds_toArray, List.set_cons_zero, List.set_cons_succ, hx] at htm
     clear hz hoff
     generalize tm.getD 14 undef = u0, tm.getD 15 undef = u1, tm.getD 16 undef = u2, tm.getD 17 undef = u3, tm.getD 18 undef = u4 at htm
     clear hx
     subst htm
     go_wp2_with fail
     go_meet
     exact ⟨rfl, hBz⟩
   case rest =>
     obtain ⟨hq2, hB⟩ := hcut
     subst hq2
     generalize wc = w2 at *
     replace HB := HB.trans (hB.mono HB.size); replace HS := HS.step hB; replace A1 := A1.step hB
     clear hB
     have T1 := fun w h => toRingS_any ao n cap S L q hn HL.out w h
     have TP := toPoint_det x y z
     have IM := fun a S hc w h => implLayerSide_any a n n S L q x y z hn HL.out (Nat.le_refl _) (by omega) hc tx ty tz w h
     have EQ := fun a b S S' w h h' => eqRingS_any a b n n n S S' L q hn HL.out w h h'
     generalize lsV n L q x y z = o at *
     have hoo : (o != o) = false := by simp
     go_wp2_with fail
     refine (T1 _ HS).mono ?_
     rintro e w3 ⟨g2, S2, rfl, R2, hS2, -, hB⟩
     replace HB := HB.trans (hB.mono HB.size); replace HS := HS.step hB; replace A1 := A1.step hB
     have HC : Hid (∀ i, i < n → L i ≤ (S2 i).2 ∧ (S2 i).2 ≤ 9223372036854775807) := fun i hi => by
       have := HL.out i hi
       rw [hS2 i]
       omega
     clear hB hS2
     obtain ⟨b0, b1, b2, b3, b4, b5, b6, b7, b8, b9, b10, b11⟩ := A1.cs12
     go_wp2_with fail
     refine (TP _).mono ?_
     rintro e w4 ⟨rfl, hB⟩
     replace HB := HB.trans (hB.mono HB.size); replace HS := HS.step hB; replace R2 := R2.step hB
     clear hB TP A1 b0 b1 b2 b3 b4 b5 b6 b7 b8 b9 b10 b11
     go_wp2_with fail
     refine (IM _ _ HC.out _ R2).mono ?_
     rintro e w5 ⟨rfl, hB⟩
     replace HB := HB.trans (hB.mono HB.size); replace HS := HS.step hB; replace R2 := R2.step hB
     clear hB IM
     go_wp2_with fail
     refine (T1 _ HS).mono ?_
     rintro e w6 ⟨g3, S3, rfl, R3, -, -, hB⟩
     replace HB := HB.trans (hB.mono HB.size); replace R2 := R2.step hB
     clear hB HS T1
     go_wp2_with fail
     refine (EQ _ _ _ _ _ R2 R3).mono ?_
     rintro e w7 ⟨rfl, hB⟩
     replace HB := HB.trans (hB.mono HB.size)
     clear hB R2 R3 EQ
     go_wp2
     go_ret
     exact ⟨rfl, HB⟩
 · clear hzl HS A1
   have hz' : zl < 0 := by omega
   go_wp2
   go_ret
   exact ⟨rfl, HB⟩
open Go.ChangeShapes Go.WideShapes Go.ChangeAt Go.RowKit Go.Joins
abbrev Wf (x : Int) : Prop := (Lit.int .i64 x).wf = true
abbrev SpD {H : Type} (x y : Int) : DataW H := .agg [.lit (.int .i64 x), .lit (.int .i64 y)]
theorem trod_spot {H : Type} {enc : TypeId × Value → H} {w : World} {base : Nat} {spare : TypeId → Bool} {held : Bool} {n : Nat} {c0 c1 : Value} {y : DataW H × List MemPlace} (h : DataW.trod enc Tryz.prog w base spare held n 90 [c0, c1] = some y) :
   ∃ a b : Int, c0 = .int .i64 a ∧ c1 = .int .i64 b ∧ y = (SpD a b, []) ∧ Wf a ∧ Wf b := by
 obtain ⟨y0, y1, m, hx, _, h0, h1⟩ := trod_struct2 Tryz.underlying90 h
 obtain ⟨a, e0, rfl, wa⟩ := DataW.trod_int Tryz.underlying2 h0
 obtain ⟨b, e1, rfl, wb⟩ := DataW.trod_int Tryz.underlying2 h1
 have k : Tryz.prog.cellsOf 2 = 1 := by kernel_rfl
 simp [k] at e0 e1
 exact ⟨a, b, e0, e1, hx, wa, wb⟩
open Go.ChangeShapes Go.WideShapes Go.ChangeAt Go.RowKit Go.Joins
theorem Tryz.laidOut : laidOutB Tryz.prog = true := by kernel_rfl
theorem Tryz.cellsSpotL : Tryz.prog.cellsOf 90 = 2 := by kernel_rfl
theorem Tryz.cellsRing : Tryz.prog.cellsOf 24 = 1 := by kernel_rfl
theorem Tryz.cellsSpotS : Tryz.prog.cellsOf 22 = 1 := by kernel_rfl
theorem spots_of {H : Type} {enc : TypeId × Value → H} {W : World} {a : Addr} {len m n : Nat} {D : Nat → DataW H} {Pl : Nat → List MemPlace} (hl : len ≤ m)
   (hx : ∀ i, i < m → ∃ cs', W.cells? 0 (a.add (i * Tryz.prog.cellsOf 90)) (Tryz.prog.cellsOf 90) = some cs' ∧ DataW.trod enc Tryz.prog W 0 (fun _ => true) true n 90 cs' = some (D i, Pl i))
   (hlt : ∀ x ∈ MemPlace.row a (m * Tryz.prog.cellsOf 90), x.block < W.heap.size) : ∃ p : Ps, SpIn W (some a) len p := by
 rw [Tryz.cellsSpotL] at hx hlt
 have each : ∀ i, i < m → ∃ q : Int × Int, W.cell? (a.add (i * 2)) = some (.int .i64 q.1) ∧ W.cell? (a.add (i * 2 + 1)) = some (.int .i64 q.2) := by
   intro i hi
   obtain ⟨cs', h1, h2⟩ := hx i hi
   obtain ⟨_, hlen, hcell⟩ := World.cells?_some h1
   match cs', hlen with
   | [v0, v1], _ =>
     have e0 := hcell 0 (by omega); have e1 := hcell 1 (by omega)
     rw [Go.Deep.add_add] at e0 e1
     obtain ⟨x, y, rfl, rfl, -, -, -⟩ := trod_spot h2
     exact ⟨(x, y), by simpa using e0, by simpa using e1⟩
 obtain ⟨q, hq⟩ := Go.Deep.choose_lt each
 obtain ⟨ab, ao, spot⟩ := a
 refine ⟨q, fun i hi => ?_⟩
 have hspot : spot = none := by simpa [Addr.add] using World.cell?_spot (hq 0 (by omega)).1
 subst hspot
 obtain ⟨c0, c1⟩ := hq i (by omega)
 rw [Addr.add_lit] at c0 c1
 exact ⟨ab, ao, rfl, hlt (.cell ab (ao + i * 2)) (by simp only [MemPlace.row, List.mem_map, List.mem_range]; exact ⟨i * 2, by omega, rfl⟩), c0, by simpa [Nat.add_assoc] using c1⟩
theorem rings_of {H : Type} {enc : TypeId × Value → H} {W : World} {a : Addr} {len m n : Nat} {D : Nat → DataW H} {Pl : Nat → List MemPlace} (hl : len ≤ m)
   (hx : ∀ i, i < m → ∃ cs', W.cells? 0 (a.add (i * Tryz.prog.cellsOf 24)) (Tryz.prog.cellsOf 24) = some cs' ∧ DataW.trod enc Tryz.prog W 0 (fun _ => true) true n 24 cs' = some (D i, Pl i))
   (hlt : ∀ x ∈ MemPlace.row a (m * Tryz.prog.cellsOf 24), x.block < W.heap.size) (hlt2 : ∀ i, i < m → ∀ x ∈ Pl i, x.block < W.heap.size) : ∃ (S : Nat → Option Addr × Nat) (L : Nat → Nat) (q : Nat → Ps), RgIn W (some a) len S L q ∧ ∀ i, i < len → L i ≤ 9223372036854775807 := by
 rw [Tryz.cellsRing] at hx hlt
 have each : ∀ i, i < m → ∃ r : (Option Addr × Nat) × Nat × Ps, W.cell? (a.add i) = some (.slice r.1.1 r.2.1 r.1.2) ∧ SpIn W r.1.1 r.2.1 r.2.2 ∧ r.2.1 ≤ 9223372036854775807 := by
   intro i hi
   obtain ⟨cs', h1, h2⟩ := hx i hi
   obtain ⟨_, hlen, hcell⟩ := World.cells?_some h1
   match cs', hlen with
   | [v0], _ =>
     have e0 := hcell 0 (by omega)
     rw [Go.Deep.add_add] at e0
     simp at e0
     obtain ⟨y0, k, hy, _, g0⟩ := trod_struct1 Tryz.underlying24 h2
     simp [Tryz.cellsSpotS] at g0
     have hpl : Pl i = y0.2 := by have := congrArg Prod.snd hy; simpa using this
     rcases Go.Deep.open_slice Tryz.underlying22 g0 with ⟨hcs, -⟩ | ⟨a', len', cap', m', n', D', Pl', hcs, _, hl', hm', hz', hx', hel'⟩
     · simp at hcs
       subst hcs
       exact ⟨((none, 0), 0, fun _ => (0, 0)), e0, fun i hi => absurd hi (Nat.not_lt_zero _), Nat.zero_le _⟩
     · simp at hcs
       subst hcs
       simp only [if_true] at hz'
       have hb : ∀ x ∈ MemPlace.row a' (m' * Tryz.prog.cellsOf 90), x.block < W.heap.size := fun x hxx => hlt2 i hi x (by
         rw [hpl, hx']
         exact List.mem_append_left _ hxx)
       obtain ⟨p, hp⟩ := spots_of (len := len') (by omega) hel' hb
       exact ⟨((some a', cap'), len', p), e0, hp, by show len' ≤ _; have := hm'; simp [maxLen] at this; omega⟩
 obtain ⟨r, hr⟩ := Go.Deep.choose_lt each
 obtain ⟨ab, ao, spot⟩ := a
 refine ⟨fun i => (r i).1, fun i => (r i).2.1, fun i => (r i).2.2, fun i hi => ?_, fun i hi => (hr i (by omega)).2.2⟩
 have hspot : spot = none := by simpa [Addr.add] using World.cell?_spot (hr 0 (by omega)).1
 subst hspot
 have c0 := (hr i (by omega)).1
 rw [Addr.add_lit] at c0
 exact ⟨ab, ao, rfl, hlt (.cell ab (ao + i)) (by simp only [MemPlace.row, List.mem_map, List.mem_range]; exact ⟨i, by omega, rfl⟩), c0, (hr i (by omega)).2.1⟩
set_option maxRecDepth 100000 in
theorem open_rings {H : Type} {enc : TypeId × Value → H} {W : World} {base : Nat} {v : Value} {d : DataW H} {pl : List MemPlace} (ok : Value.okWide Tryz.prog W .any base 43 v) (h : DataW.Trod enc Tryz.prog W 0 (fun _ => true) true 43 v d pl) (hlt : ∀ x ∈ pl, x.block < W.heap.size) :
   ∃ ao n cap S L q, v = .slice ao n cap ∧ n ≤ 9223372036854775807 ∧ (∀ i, i < n → L i ≤ 9223372036854775807) ∧ RgIn W ao n S L q := by
 obtain ⟨a0, len, cap, rfl⟩ := okWide_slice Tryz.underlying43 ok
 obtain ⟨fuel, hf⟩ := h
 rcases Go.Deep.open_slice Tryz.underlying43 hf with ⟨hcs, hx⟩ | ⟨a, len', cap', m, n, D, Pl, hcs, _, hl, hm, hz, hx, hel⟩
 · simp [Value.cells] at hcs
   obtain ⟨rfl, rfl, rfl⟩ := hcs
   exact ⟨none, 0, 0, fun _ => (none, 0), fun _ => 0, fun _ _ => (0, 0), rfl, by omega, fun i hi => by omega, fun i hi => by omega⟩
 · simp [Value.cells] at hcs
   obtain ⟨rfl, rfl, rfl⟩ := hcs
   simp only [Prod.mk.injEq] at hx
   obtain ⟨rfl, rfl⟩ := hx
   simp only [if_true] at hz
   obtain ⟨S, L, q, hS, hL⟩ := rings_of (len := len) (by omega) hel (fun y hy => hlt y (List.mem_append_left _ hy)) (fun i hi y hy => hlt y (List.mem_append_right _ (List.mem_flatMap.2 ⟨i, List.mem_range.2 hi, hy⟩)))
   exact ⟨some a, len, cap, S, L, q, rfl, by have := hm; simp [maxLen] at this; omega, hL, hS⟩
open Go.ChangeShapes Go.WideShapes Go.ChangeAt Go.RowKit Go.Joins
theorem jn_laid : laidOutB Tryz.pinned.checked.prog = true := by kernel_rfl
theorem jn_maps : mapsRowed Tryz.pinned.checked.prog = true := by kernel_rfl
theorem jn_enter : Tryz.pinned.checked.prog.mayEnter = true := by kernel_rfl
theorem jn_heard : Tryz.pinned.checked.prog.stopsHeard = true := by kernel_rfl
end Go.Proofs.YtibbjjlapglndaaGreat
