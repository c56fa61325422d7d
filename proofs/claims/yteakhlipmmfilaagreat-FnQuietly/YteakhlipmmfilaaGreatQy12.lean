/- Part 12 of the walks that the proof leans on. -/
import Derived.Test.YteakhlipmmfilaaGreatQy11
import Derived.Test.YteakhlipmmfilaaGreatQy8
namespace Go.Proofs.YteakhlipmmfilaaGreat
open Go.RowKit
theorem kept_below {g : Nat} {w w' : World} (hg : g < w.heap.size) (K : Kept g w w') : Below g w w' := ⟨K.os, K.tape, K.output, K.size, fun k hk => K.block k (by omega) (by omega)⟩
def Vrn5 (wA : World) (_g : Nat) (_ao : Option Addr) (_n _cap : Nat) (_cs : List Int) (y3 y4 y5 y6 : Int) (_B : Nat) : Nat → Value → World → Prop
 | 0, v, _ => v = .int .i64 y3
 | 1, v, _ => v = .int .i64 y4
 | 2, v, _ => ∃ p q : Int, v = .agg #[.int .i64 p, .int .i64 q]
 | 3, v, _ => v = .int .i64 y3
 | 4, v, _ => v = .int .i64 y5
 | 5, v, _ => ∃ z : Int, v = .int .i64 z
 | 6, v, _ => v = .int .i64 y4
 | 7, v, _ => ∃ p q : Int, v = .agg #[.int .i64 p, .int .i64 q]
 | 8, v, _ => v = .int .i64 y3
 | 9, v, _ => v = .int .i64 y5
 | 10, v, _ => ∃ z : Int, v = .int .i64 z
 | 11, v, _ => v = .int .i64 y4
 | 12, v, _ => v = .int .i64 y6
 | 13, v, _ => ∃ z : Int, v = .int .i64 z
 | 14, v, _ => ∃ p q : Int, v = .agg #[.int .i64 p, .int .i64 q]
 | 15, v, _ => v = .int .i64 y3
 | 16, v, _ => v = .int .i64 y4
 | 17, v, _ => v = .int .i64 y6
 | 18, v, _ => ∃ z : Int, v = .int .i64 z
 | 19, v, _ => ∃ p q : Int, v = .agg #[.int .i64 p, .int .i64 q]
 | 20, v, W => ∃ L, SpRow W (wA.heap.size + 1) v 4 L
 | 21, v, W => ∃ L, SpRow W (wA.heap.size + 1) v 4 L
 | _, _, _ => True
theorem Vrn5.mono {wA : World} {g : Nat} {ao : Option Addr} {n cap : Nat} {cs : List Int} {y3 y4 y5 y6 : Int} {B j : Nat} {v : Value} {W W2 : World} (hB : Below W.heap.size W W2) (h : Vrn5 wA g ao n cap cs y3 y4 y5 y6 B j v W) : Vrn5 wA g ao n cap cs y3 y4 y5 y6 B j v W2 := by
 unfold Vrn5 at *
 split <;> simp only at h <;> first | exact h | (obtain ⟨L, O⟩ := h; exact ⟨L, ownG_step O hB⟩) | trivial
def Srn5 (wA : World) (g : Nat) (ao : Option Addr) (n cap : Nat) (cs : List Int) (_y3 _y4 _y5 _y6 : Int) (W : World) : Prop := Rdr W g ao n cap cs ∧ Kept g wA W ∧ Blk W wA.heap.size [.slice none 0 0]
def Jrn5 (wA : World) (g : Nat) (ao : Option Addr) (n cap : Nat) (cs : List Int) (y3 y4 y5 y6 : Int) (w0 : World) (a0 : Act) (lz : Array Bool) (az : Act) (W : World) : Prop := InvQ (g) [some 20, some 21, some 22, some 23, some 24, some 25, some 26, some 27, some 28, some 29, some 30, some 31, some 32, some 33, some 34, some 35, some 36, some 37, some 38, some 39, some 40, some 7] (Vrn5 wA g ao n cap cs y3 y4 y5 y6 (g)) w0 a0 lz az W ∧ Srn5 wA g ao n cap cs y3 y4 y5 y6 W
set_option maxRecDepth 100000 in
set_option maxHeartbeats 4000000 in
theorem rn5 {Q : Exit → Act → World → Prop} {wA : World} {g : Nat} {ao : Option Addr} {n cap : Nat} {cs : List Int} {y3 y4 y5 y6 : Int}  {w0 : World} {a0 : Act} {idq : Nat} {t0 t1 t2 t3 t4 t5 t6 t7 t8 t9 t10 t11 t12 t13 t14 t15 t16 t17 t18 t19 t20 t21 : TypeId} {q0 q1 q2 q3 q4 q5 q6 q7 q8 q9 q10 q11 q12 q13 q14 q15 q16 q17 q18 q19 q20 q21 : String}
   (hgA : g < wA.heap.size) (h0 : a0.tmps[0]? = some (.pointer (some ⟨g, 0, none⟩))) (h3 : a0.tmps[3]? = some (.int .i64 y3)) (h4 : a0.tmps[4]? = some (.int .i64 y4)) (h5 : a0.tmps[5]? = some (.int .i64 y5)) (h6 : a0.tmps[6]? = some (.int .i64 y6))  (hz : a0.tmps.size = 195) (hs0 : Srn5 wA g ao n cap cs y3 y4 y5 y6 w0)
   (hQ : ∀ aq W, aq.tmps.size = a0.tmps.size → aq.defers = a0.defers → (∀ e, e ∉ ([20, 21, 22, 23, 24, 25, 26, 27, 28, 29, 30, 31, 32, 33, 34, 35, 36, 37, 38, 39, 40, 7] : List Nat) → aq.tmps[e]? = a0.tmps[e]?) → Vrn5 wA g ao n cap cs y3 y4 y5 y6 (g) 21 (aq.tmps.getD 7 undef) W → Below (g) w0 W → Srn5 wA g ao n cap cs y3 y4 y5 y6 W → Q .normal aq W) :
   (Code.region idq #[{ dst := some 20, op := Op.move (Operand.tmp 3), type := t0, pos := q0, after := #[], guard := none },
   { dst := some 21, op := Op.move (Operand.tmp 4), type := t1, pos := q1, after := #[], guard := none },
   { dst := some 22, op := Op.build 51 #[(0, Operand.tmp 20), (1, Operand.tmp 21)], type := t2, pos := q2, after := #[{ on := 0, ground := Ground.data }, { on := 1, ground := Ground.data }], guard := none },
   { dst := some 23, op := Op.move (Operand.tmp 3), type := t3, pos := q3, after := #[], guard := none },
   { dst := some 24, op := Op.move (Operand.tmp 5), type := t4, pos := q4, after := #[], guard := none },
   { dst := some 25, op := Op.binOp BinOp.add 2 (Operand.tmp 23) (Operand.tmp 24) 2, type := t5, pos := q5, after := #[{ on := 3, ground := Ground.data }, { on := 4, ground := Ground.data }], guard := none },
   { dst := some 26, op := Op.move (Operand.tmp 4), type := t6, pos := q6, after := #[], guard := none },
   { dst := some 27, op := Op.build 51 #[(0, Operand.tmp 25), (1, Operand.tmp 26)], type := t7, pos := q7, after := #[{ on := 5, ground := Ground.data }, { on := 6, ground := Ground.data }], guard := none },
   { dst := some 28, op := Op.move (Operand.tmp 3), type := t8, pos := q8, after := #[], guard := none },
   { dst := some 29, op := Op.move (Operand.tmp 5), type := t9, pos := q9, after := #[], guard := none },
   { dst := some 30, op := Op.binOp BinOp.add 2 (Operand.tmp 28) (Operand.tmp 29) 2, type := t10, pos := q10, after := #[{ on := 8, ground := Ground.data }, { on := 9, ground := Ground.data }], guard := none },
   { dst := some 31, op := Op.move (Operand.tmp 4), type := t11, pos := q11, after := #[], guard := none },
   { dst := some 32, op := Op.move (Operand.tmp 6), type := t12, pos := q12, after := #[], guard := none },
   { dst := some 33, op := Op.binOp BinOp.add 2 (Operand.tmp 31) (Operand.tmp 32) 2, type := t13, pos := q13, after := #[{ on := 11, ground := Ground.data }, { on := 12, ground := Ground.data }], guard := none },
   { dst := some 34, op := Op.build 51 #[(0, Operand.tmp 30), (1, Operand.tmp 33)], type := t14, pos := q14, after := #[{ on := 10, ground := Ground.data }, { on := 13, ground := Ground.data }], guard := none },
   { dst := some 35, op := Op.move (Operand.tmp 3), type := t15, pos := q15, after := #[], guard := none },
   { dst := some 36, op := Op.move (Operand.tmp 4), type := t16, pos := q16, after := #[], guard := none },
   { dst := some 37, op := Op.move (Operand.tmp 6), type := t17, pos := q17, after := #[], guard := none },
   { dst := some 38, op := Op.binOp BinOp.add 2 (Operand.tmp 36) (Operand.tmp 37) 2, type := t18, pos := q18, after := #[{ on := 16, ground := Ground.data }, { on := 17, ground := Ground.data }], guard := none },
   { dst := some 39, op := Op.build 51 #[(0, Operand.tmp 35), (1, Operand.tmp 38)], type := t19, pos := q19, after := #[{ on := 15, ground := Ground.data }, { on := 18, ground := Ground.data }], guard := none },
   { dst := some 40, op := Op.buildSlice 55 4 #[(0, Operand.tmp 22), (1, Operand.tmp 27), (2, Operand.tmp 34), (3, Operand.tmp 39)], type := t20, pos := q20, after := #[{ on := 2, ground := Ground.data }, { on := 7, ground := Ground.data }, { on := 14, ground := Ground.data }, { on := 19, ground := Ground.data }], guard := none },
   { dst := some 7, op := Op.assign (Operand.tmp 40), type := t21, pos := q21, after := #[{ on := 20, ground := Ground.data }, { on := 0, ground := Ground.phase }, { on := 1, ground := Ground.phase }, { on := 2, ground := Ground.phase }, { on := 3, ground := Ground.phase }, { on := 4, ground := Ground.phase }, { on := 5, ground := Ground.phase }, { on := 6, ground := Ground.phase }, { on := 7, ground := Ground.phase }, { on := 8, ground := Ground.phase }, { on := 9, ground := Ground.phase }, { on := 10, ground := Ground.phase }, { on := 11, ground := Ground.phase }, { on := 12, ground := Ground.phase }, { on := 13, ground := Ground.phase }, { on := 14, ground := Ground.phase }, { on := 15, ground := Ground.phase }, { on := 16, ground := Ground.phase }, { on := 17, ground := Ground.phase }, { on := 18, ground := Ground.phase }, { on := 19, ground := Ground.phase }, { on := 20, ground := Ground.phase }], guard := none }] false).wp Tryz.prog Q a0 w0 := by
 have hS : distS [some 20, some 21, some 22, some 23, some 24, some 25, some 26, some 27, some 28, some 29, some 30, some 31, some 32, some 33, some 34, some 35, some 36, some 37, some 38, some 39, some 40, some 7] = true := rfl
 refine wp_region_invp (Jrn5 wA g ao n cap cs y3 y4 y5 y6 w0 a0) (by kernel_rfl) ⟨⟨rfl, rfl, rfl, fun _ _ => rfl, Below.refl _ w0, fun j d hj => ?_, fun j hj => ?_⟩, hs0⟩ ?_ ?_
 · exfalso
   rw [Array.getD_eq_getD_getElem?, Array.getElem?_replicate] at hj
   split at hj <;> simp at hj
 · exfalso
   rw [Array.getD_eq_getD_getElem?, Array.getElem?_replicate] at hj
   split at hj <;> simp at hj
 · intro lq aq W iq oq ⟨hJ, hs⟩ hl ho hall
   have hJ2 := hJ
   obtain ⟨z1, z2, z3, z4, z5, z6, z7⟩ := hJ
   have g0 : aq.tmps.getD 0 undef = .pointer (some ⟨g, 0, none⟩) := by rw [Array.getD_eq_getD_getElem?, z4 0 (by decide), h0]; rfl
   have g3 : aq.tmps.getD 3 undef = .int .i64 y3 := by rw [Array.getD_eq_getD_getElem?, z4 3 (by decide), h3]; rfl
   have g4 : aq.tmps.getD 4 undef = .int .i64 y4 := by rw [Array.getD_eq_getD_getElem?, z4 4 (by decide), h4]; rfl
   have g5 : aq.tmps.getD 5 undef = .int .i64 y5 := by rw [Array.getD_eq_getD_getElem?, z4 5 (by decide), h5]; rfl
   have g6 : aq.tmps.getD 6 undef = .int .i64 y6 := by rw [Array.getD_eq_getD_getElem?, z4 6 (by decide), h6]; rfl
   match iq, ho with
   | 0, ho =>
     cases ho
     refine wpOp_of rfl rfl ?_
     have hK := fun (v : Value) (W2 : World) hW hT hv (hs : Srn5 wA g ao n cap cs y3 y4 y5 y6 W2) => show (Jrn5 wA g ao n cap cs y3 y4 y5 y6 w0 a0) (lq.setIfInBounds 0 true) (aq.put (some 20) v) W2 from ⟨hJ2.put hS 0 20 rfl (by omega) (W' := W2) hW hT v hv, hs⟩
     clear ho hall hl hQ
     generalize (Jrn5 wA g ao n cap cs y3 y4 y5 y6 w0 a0) (lq.setIfInBounds 0 true) = K at hK ⊢
     clear hJ2 hS z1 z2 z3 z4 z6 z7
     go_simp
     exact hK _ _ z5 (fun _ _ h => h) rfl hs
   | 1, ho =>
     cases ho
     refine wpOp_of rfl rfl ?_
     have hK := fun (v : Value) (W2 : World) hW hT hv (hs : Srn5 wA g ao n cap cs y3 y4 y5 y6 W2) => show (Jrn5 wA g ao n cap cs y3 y4 y5 y6 w0 a0) (lq.setIfInBounds 1 true) (aq.put (some 21) v) W2 from ⟨hJ2.put hS 1 21 rfl (by omega) (W' := W2) hW hT v hv, hs⟩
     clear ho hall hl hQ
     generalize (Jrn5 wA g ao n cap cs y3 y4 y5 y6 w0 a0) (lq.setIfInBounds 1 true) = K at hK ⊢
     clear hJ2 hS z1 z2 z3 z4 z6 z7
     go_simp
     exact hK _ _ z5 (fun _ _ h => h) rfl hs
   | 2, ho =>
     cases ho
     refine wpOp_of rfl rfl ?_
     have f0 : (aq.tmps.getD 20 undef) = .int .i64 y3 := z6 0 20 (hall { on := 0, ground := Ground.data } (by simp) rfl) rfl
     have f1 : (aq.tmps.getD 21 undef) = .int .i64 y4 := z6 1 21 (hall { on := 1, ground := Ground.data } (by simp) rfl) rfl
     rw [Array.getD_eq_getD_getElem?] at f0
     rw [Array.getD_eq_getD_getElem?] at f1
     have hK := fun (v : Value) (W2 : World) hW hT hv (hs : Srn5 wA g ao n cap cs y3 y4 y5 y6 W2) => show (Jrn5 wA g ao n cap cs y3 y4 y5 y6 w0 a0) (lq.setIfInBounds 2 true) (aq.put (some 22) v) W2 from ⟨hJ2.put hS 2 22 rfl (by omega) (W' := W2) hW hT v hv, hs⟩
     clear ho hall hl hQ
     generalize (Jrn5 wA g ao n cap cs y3 y4 y5 y6 w0 a0) (lq.setIfInBounds 2 true) = K at hK ⊢
     clear hJ2 hS z1 z2 z3 z4 z6 z7
     go_simp
     exact hK _ _ z5 (fun _ _ h => h) ⟨_, _, rfl⟩ hs
   | 3, ho =>
     cases ho
     refine wpOp_of rfl rfl ?_
     have hK := fun (v : Value) (W2 : World) hW hT hv (hs : Srn5 wA g ao n cap cs y3 y4 y5 y6 W2) => show (Jrn5 wA g ao n cap cs y3 y4 y5 y6 w0 a0) (lq.setIfInBounds 3 true) (aq.put (some 23) v) W2 from ⟨hJ2.put hS 3 23 rfl (by omega) (W' := W2) hW hT v hv, hs⟩
     clear ho hall hl hQ
     generalize (Jrn5 wA g ao n cap cs y3 y4 y5 y6 w0 a0) (lq.setIfInBounds 3 true) = K at hK ⊢
     clear hJ2 hS z1 z2 z3 z4 z6 z7
     go_simp
     exact hK _ _ z5 (fun _ _ h => h) rfl hs
   | 4, ho =>
     cases ho
     refine wpOp_of rfl rfl ?_
     have hK := fun (v : Value) (W2 : World) hW hT hv (hs : Srn5 wA g ao n cap cs y3 y4 y5 y6 W2) => show (Jrn5 wA g ao n cap cs y3 y4 y5 y6 w0 a0) (lq.setIfInBounds 4 true) (aq.put (some 24) v) W2 from ⟨hJ2.put hS 4 24 rfl (by omega) (W' := W2) hW hT v hv, hs⟩
     clear ho hall hl hQ
     generalize (Jrn5 wA g ao n cap cs y3 y4 y5 y6 w0 a0) (lq.setIfInBounds 4 true) = K at hK ⊢
     clear hJ2 hS z1 z2 z3 z4 z6 z7
     go_simp
     exact hK _ _ z5 (fun _ _ h => h) rfl hs
   | 5, ho =>
     cases ho
     refine wpOp_of rfl rfl ?_
     have f3 : (aq.tmps.getD 23 undef) = .int .i64 y3 := z6 3 23 (hall { on := 3, ground := Ground.data } (by simp) rfl) rfl
     have f4 : (aq.tmps.getD 24 undef) = .int .i64 y5 := z6 4 24 (hall { on := 4, ground := Ground.data } (by simp) rfl) rfl
     have hK := fun (v : Value) (W2 : World) hW hT hv (hs : Srn5 wA g ao n cap cs y3 y4 y5 y6 W2) => show (Jrn5 wA g ao n cap cs y3 y4 y5 y6 w0 a0) (lq.setIfInBounds 5 true) (aq.put (some 25) v) W2 from ⟨hJ2.put hS 5 25 rfl (by omega) (W' := W2) hW hT v hv, hs⟩
     clear ho hall hl hQ
     generalize (Jrn5 wA g ao n cap cs y3 y4 y5 y6 w0 a0) (lq.setIfInBounds 5 true) = K at hK ⊢
     clear hJ2 hS z1 z2 z3 z4 z6 z7
     go_simp
     exact hK _ _ z5 (fun _ _ h => h) ⟨_, rfl⟩ hs
   | 6, ho =>
     cases ho
     refine wpOp_of rfl rfl ?_
     have hK := fun (v : Value) (W2 : World) hW hT hv (hs : Srn5 wA g ao n cap cs y3 y4 y5 y6 W2) => show (Jrn5 wA g ao n cap cs y3 y4 y5 y6 w0 a0) (lq.setIfInBounds 6 true) (aq.put (some 26) v) W2 from ⟨hJ2.put hS 6 26 rfl (by omega) (W' := W2) hW hT v hv, hs⟩
     clear ho hall hl hQ
     generalize (Jrn5 wA g ao n cap cs y3 y4 y5 y6 w0 a0) (lq.setIfInBounds 6 true) = K at hK ⊢
     clear hJ2 hS z1 z2 z3 z4 z6 z7
     go_simp
     exact hK _ _ z5 (fun _ _ h => h) rfl hs
   | 7, ho =>
     cases ho
     refine wpOp_of rfl rfl ?_
     have f5 : ∃ z : Int, (aq.tmps.getD 25 undef) = .int .i64 z := z6 5 25 (hall { on := 5, ground := Ground.data } (by simp) rfl) rfl
     obtain ⟨z5q, f5⟩ := f5
     have f6 : (aq.tmps.getD 26 undef) = .int .i64 y4 := z6 6 26 (hall { on := 6, ground := Ground.data } (by simp) rfl) rfl
     rw [Array.getD_eq_getD_getElem?] at f5
     rw [Array.getD_eq_getD_getElem?] at f6
     have hK := fun (v : Value) (W2 : World) hW hT hv (hs : Srn5 wA g ao n cap cs y3 y4 y5 y6 W2) => show (Jrn5 wA g ao n cap cs y3 y4 y5 y6 w0 a0) (lq.setIfInBounds 7 true) (aq.put (some 27) v) W2 from ⟨hJ2.put hS 7 27 rfl (by omega) (W' := W2) hW hT v hv, hs⟩
     clear ho hall hl hQ
     generalize (Jrn5 wA g ao n cap cs y3 y4 y5 y6 w0 a0) (lq.setIfInBounds 7 true) = K at hK ⊢
     clear hJ2 hS z1 z2 z3 z4 z6 z7
     go_simp
     exact hK _ _ z5 (fun _ _ h => h) ⟨_, _, rfl⟩ hs
   | 8, ho =>
     cases ho
     refine wpOp_of rfl rfl ?_
     have hK := fun (v : Value) (W2 : World) hW hT hv (hs : Srn5 wA g ao n cap cs y3 y4 y5 y6 W2) => show (Jrn5 wA g ao n cap cs y3 y4 y5 y6 w0 a0) (lq.setIfInBounds 8 true) (aq.put (some 28) v) W2 from ⟨hJ2.put hS 8 28 rfl (by omega) (W' := W2) hW hT v hv, hs⟩
     clear ho hall hl hQ
     generalize (Jrn5 wA g ao n cap cs y3 y4 y5 y6 w0 a0) (lq.setIfInBounds 8 true) = K at hK ⊢
     clear hJ2 hS z1 z2 z3 z4 z6 z7
     go_simp
     exact hK _ _ z5 (fun _ _ h => h) rfl hs
   | 9, ho =>
     cases ho
     refine wpOp_of rfl rfl ?_
     have hK := fun (v : Value) (W2 : World) hW hT hv (hs : Srn5 wA g ao n cap cs y3 y4 y5 y6 W2) => show (Jrn5 wA g ao n cap cs y3 y4 y5 y6 w0 a0) (lq.setIfInBounds 9 true) (aq.put (some 29) v) W2 from ⟨hJ2.put hS 9 29 rfl (by omega) (W' := W2) hW hT v hv, hs⟩
     clear ho hall hl hQ
     generalize (Jrn5 wA g ao n cap cs y3 y4 y5 y6 w0 a0) (lq.setIfInBounds 9 true) = K at hK ⊢
     clear hJ2 hS z1 z2 z3 z4 z6 z7
     go_simp
     exact hK _ _ z5 (fun _ _ h => h) rfl hs
   | 10, ho =>
     cases ho
     refine wpOp_of rfl rfl ?_
     have f8 : (aq.tmps.getD 28 undef) = .int .i64 y3 := z6 8 28 (hall { on := 8, ground := Ground.data } (by simp) rfl) rfl
     have f9 : (aq.tmps.getD 29 undef) = .int .i64 y5 := z6 9 29 (hall { on := 9, ground := Ground.data } (by simp) rfl) rfl
     have hK := fun (v : Value) (W2 : World) hW hT hv (hs : Srn5 wA g ao n cap cs y3 y4 y5 y6 W2) => show (Jrn5 wA g ao n cap cs y3 y4 y5 y6 w0 a0) (lq.setIfInBounds 10 true) (aq.put (some 30) v) W2 from ⟨hJ2.put hS 10 30 rfl (by omega) (W' := W2) hW hT v hv, hs⟩
     clear ho hall hl hQ
     generalize (Jrn5 wA g ao n cap cs y3 y4 y5 y6 w0 a0) (lq.setIfInBounds 10 true) = K at hK ⊢
     clear hJ2 hS z1 z2 z3 z4 z6 z7
     go_simp
     exact hK _ _ z5 (fun _ _ h => h) ⟨_, rfl⟩ hs
   | 11, ho =>
     cases ho
     refine wpOp_of rfl rfl ?_
     have hK := fun (v : Value) (W2 : World) hW hT hv (hs : Srn5 wA g ao n cap cs y3 y4 y5 y6 W2) => show (Jrn5 wA g ao n cap cs y3 y4 y5 y6 w0 a0) (lq.setIfInBounds 11 true) (aq.put (some 31) v) W2 from ⟨hJ2.put hS 11 31 rfl (by omega) (W' := W2) hW hT v hv, hs⟩
     clear ho hall hl hQ
     generalize (Jrn5 wA g ao n cap cs y3 y4 y5 y6 w0 a0) (lq.setIfInBounds 11 true) = K at hK ⊢
     clear hJ2 hS z1 z2 z3 z4 z6 z7
     go_simp
     exact hK _ _ z5 (fun _ _ h => h) rfl hs
   | 12, ho =>
     cases ho
     refine wpOp_of rfl rfl ?_
     have hK := fun (v : Value) (W2 : World) hW hT hv (hs : Srn5 wA g ao n cap cs y3 y4 y5 y6 W2) => show (Jrn5 wA g ao n cap cs y3 y4 y5 y6 w0 a0) (lq.setIfInBounds 12 true) (aq.put (some 32) v) W2 from ⟨hJ2.put hS 12 32 rfl (by omega) (W' := W2) hW hT v hv, hs⟩
     clear ho hall hl hQ
     generalize (Jrn5 wA g ao n cap cs y3 y4 y5 y6 w0 a0) (lq.setIfInBounds 12 true) = K at hK ⊢
     clear hJ2 hS z1 z2 z3 z4 z6 z7
     go_simp
     exact hK _ _ z5 (fun _ _ h => h) rfl hs
   | 13, ho =>
     cases ho
     refine wpOp_of rfl rfl ?_
     have f11 : (aq.tmps.getD 31 undef) = .int .i64 y4 := z6 11 31 (hall { on := 11, ground := Ground.data } (by simp) rfl) rfl
     have f12 : (aq.tmps.getD 32 undef) = .int .i64 y6 := z6 12 32 (hall { on := 12, ground := Ground.data } (by simp) rfl) rfl
     have hK := fun (v : Value) (W2 : World) hW hT hv (hs : Srn5 wA g ao n cap cs y3 y4 y5 y6 W2) => show (Jrn5 wA g ao n cap cs y3 y4 y5 y6 w0 a0) (lq.setIfInBounds 13 true) (aq.put (some 33) v) W2 from ⟨hJ2.put hS 13 33 rfl (by omega) (W' := W2) hW hT v hv, hs⟩
     clear ho hall hl hQ
     generalize (Jrn5 wA g ao n cap cs y3 y4 y5 y6 w0 a0) (lq.setIfInBounds 13 true) = K at hK ⊢
     clear hJ2 hS z1 z2 z3 z4 z6 z7
     go_simp
     exact hK _ _ z5 (fun _ _ h => h) ⟨_, rfl⟩ hs
   | 14, ho =>
     cases ho
     refine wpOp_of rfl rfl ?_
     have f10 : ∃ z : Int, (aq.tmps.getD 30 undef) = .int .i64 z := z6 10 30 (hall { on := 10, ground := Ground.data } (by simp) rfl) rfl
     obtain ⟨z10q, f10⟩ := f10
     have f13 : ∃ z : Int, (aq.tmps.getD 33 undef) = .int .i64 z := z6 13 33 (hall { on := 13, ground := Ground.data } (by simp) rfl) rfl
     obtain ⟨z13q, f13⟩ := f13
     rw [Array.getD_eq_getD_getElem?] at f10
     rw [Array.getD_eq_getD_getElem?] at f13
     have hK := fun (v : Value) (W2 : World) hW hT hv (hs : Srn5 wA g ao n cap cs y3 y4 y5 y6 W2) => show (Jrn5 wA g ao n cap cs y3 y4 y5 y6 w0 a0) (lq.setIfInBounds 14 true) (aq.put (some 34) v) W2 from ⟨hJ2.put hS 14 34 rfl (by omega) (W' := W2) hW hT v hv, hs⟩
     clear ho hall hl hQ
     generalize (Jrn5 wA g ao n cap cs y3 y4 y5 y6 w0 a0) (lq.setIfInBounds 14 true) = K at hK ⊢
     clear hJ2 hS z1 z2 z3 z4 z6 z7
     go_simp
     exact hK _ _ z5 (fun _ _ h => h) ⟨_, _, rfl⟩ hs
   | 15, ho =>
     cases ho
     refine wpOp_of rfl rfl ?_
     have hK := fun (v : Value) (W2 : World) hW hT hv (hs : Srn5 wA g ao n cap cs y3 y4 y5 y6 W2) => show (Jrn5 wA g ao n cap cs y3 y4 y5 y6 w0 a0) (lq.setIfInBounds 15 true) (aq.put (some 35) v) W2 from ⟨hJ2.put hS 15 35 rfl (by omega) (W' := W2) hW hT v hv, hs⟩
     clear ho hall hl hQ
     generalize (Jrn5 wA g ao n cap cs y3 y4 y5 y6 w0 a0) (lq.setIfInBounds 15 true) = K at hK ⊢
     clear hJ2 hS z1 z2 z3 z4 z6 z7
     go_simp
     exact hK _ _ z5 (fun _ _ h => h) rfl hs
   | 16, ho =>
     cases ho
     refine wpOp_of rfl rfl ?_
     have hK := fun (v : Value) (W2 : World) hW hT hv (hs : Srn5 wA g ao n cap cs y3 y4 y5 y6 W2) => show (Jrn5 wA g ao n cap cs y3 y4 y5 y6 w0 a0) (lq.setIfInBounds 16 true) (aq.put (some 36) v) W2 from ⟨hJ2.put hS 16 36 rfl (by omega) (W' := W2) hW hT v hv, hs⟩
     clear ho hall hl hQ
     generalize (Jrn5 wA g ao n cap cs y3 y4 y5 y6 w0 a0) (lq.setIfInBounds 16 true) = K at hK ⊢
     clear hJ2 hS z1 z2 z3 z4 z6 z7
     go_simp
     exact hK _ _ z5 (fun _ _ h => h) rfl hs
   | 17, ho =>
     cases ho
     refine wpOp_of rfl rfl ?_
     have hK := fun (v : Value) (W2 : World) hW hT hv (hs : Srn5 wA g ao n cap cs y3 y4 y5 y6 W2) => show (Jrn5 wA g ao n cap cs y3 y4 y5 y6 w0 a0) (lq.setIfInBounds 17 true) (aq.put (some 37) v) W2 from ⟨hJ2.put hS 17 37 rfl (by omega) (W' := W2) hW hT v hv, hs⟩
     clear ho hall hl hQ
     generalize (Jrn5 wA g ao n cap cs y3 y4 y5 y6 w0 a0) (lq.setIfInBounds 17 true) = K at hK ⊢
     clear hJ2 hS z1 z2 z3 z4 z6 z7
     go_simp
     exact hK _ _ z5 (fun _ _ h => h) rfl hs
   | 18, ho =>
     cases ho
     refine wpOp_of rfl rfl ?_
     have f16 : (aq.tmps.getD 36 undef) = .int .i64 y4 := z6 16 36 (hall { on := 16, ground := Ground.data } (by simp) rfl) rfl
     have f17 : (aq.tmps.getD 37 undef) = .int .i64 y6 := z6 17 37 (hall { on := 17, ground := Ground.data } (by simp) rfl) rfl
     have hK := fun (v : Value) (W2 : World) hW hT hv (hs : Srn5 wA g ao n cap cs y3 y4 y5 y6 W2) => show (Jrn5 wA g ao n cap cs y3 y4 y5 y6 w0 a0) (lq.setIfInBounds 18 true) (aq.put (some 38) v) W2 from ⟨hJ2.put hS 18 38 rfl (by omega) (W' := W2) hW hT v hv, hs⟩
     clear ho hall hl hQ
     generalize (Jrn5 wA g ao n cap cs y3 y4 y5 y6 w0 a0) (lq.setIfInBounds 18 true) = K at hK ⊢
     clear hJ2 hS z1 z2 z3 z4 z6 z7
     go_simp
     exact hK _ _ z5 (fun _ _ h => h) ⟨_, rfl⟩ hs
   | 19, ho =>
     cases ho
     refine wpOp_of rfl rfl ?_
     have f15 : (aq.tmps.getD 35 undef) = .int .i64 y3 := z6 15 35 (hall { on := 15, ground := Ground.data } (by simp) rfl) rfl
     have f18 : ∃ z : Int, (aq.tmps.getD 38 undef) = .int .i64 z := z6 18 38 (hall { on := 18, ground := Ground.data } (by simp) rfl) rfl
     obtain ⟨z18q, f18⟩ := f18
     rw [Array.getD_eq_getD_getElem?] at f15
     rw [Array.getD_eq_getD_getElem?] at f18
     have hK := fun (v : Value) (W2 : World) hW hT hv (hs : Srn5 wA g ao n cap cs y3 y4 y5 y6 W2) => show (Jrn5 wA g ao n cap cs y3 y4 y5 y6 w0 a0) (lq.setIfInBounds 19 true) (aq.put (some 39) v) W2 from ⟨hJ2.put hS 19 39 rfl (by omega) (W' := W2) hW hT v hv, hs⟩
     clear ho hall hl hQ
     generalize (Jrn5 wA g ao n cap cs y3 y4 y5 y6 w0 a0) (lq.setIfInBounds 19 true) = K at hK ⊢
     clear hJ2 hS z1 z2 z3 z4 z6 z7
     go_simp
     exact hK _ _ z5 (fun _ _ h => h) ⟨_, _, rfl⟩ hs
   | 20, ho =>
     cases ho
     refine wpOp_of rfl rfl ?_
     have f2 : ∃ p q : Int, (aq.tmps.getD 22 undef) = .agg #[.int .i64 p, .int .i64 q] := z6 2 22 (hall { on := 2, ground := Ground.data } (by simp) rfl) rfl
     obtain ⟨p2q, r2q, f2⟩ := f2
     have f7 : ∃ p q : Int, (aq.tmps.getD 27 undef) = .agg #[.int .i64 p, .int .i64 q] := z6 7 27 (hall { on := 7, ground := Ground.data } (by simp) rfl) rfl
     obtain ⟨p7q, r7q, f7⟩ := f7
     have f14 : ∃ p q : Int, (aq.tmps.getD 34 undef) = .agg #[.int .i64 p, .int .i64 q] := z6 14 34 (hall { on := 14, ground := Ground.data } (by simp) rfl) rfl
     obtain ⟨p14q, r14q, f14⟩ := f14
     have f19 : ∃ p q : Int, (aq.tmps.getD 39 undef) = .agg #[.int .i64 p, .int .i64 q] := z6 19 39 (hall { on := 19, ground := Ground.data } (by simp) rfl) rfl
     obtain ⟨p19q, r19q, f19⟩ := f19
     rw [Array.getD_eq_getD_getElem?] at f2
     rw [Array.getD_eq_getD_getElem?] at f7
     rw [Array.getD_eq_getD_getElem?] at f14
     rw [Array.getD_eq_getD_getElem?] at f19
     have hK := fun (v : Value) (W2 : World) hW hT hv (hs : Srn5 wA g ao n cap cs y3 y4 y5 y6 W2) => show (Jrn5 wA g ao n cap cs y3 y4 y5 y6 w0 a0) (lq.setIfInBounds 20 true) (aq.put (some 40) v) W2 from ⟨hJ2.put hS 20 40 rfl (by omega) (W' := W2) hW hT v hv, hs⟩
     clear ho hall hl hQ
     generalize (Jrn5 wA g ao n cap cs y3 y4 y5 y6 w0 a0) (lq.setIfInBounds 20 true) = K at hK ⊢
     clear hJ2 hS z1 z2 z3 z4 z6 z7
     obtain ⟨sR, sK, sB⟩ := hs
     have sl := sB.lt
     have zs := z5.size
     go_simp
     exact hK _ _ (z5.alloc (by have := hgA; omega) _) (fun _ _ h => h.mono ((Below.refl _ _).alloc (Nat.le_refl _) _)) ⟨_, sp_made4 _ _ _ _ _ _ _ _ _ (by omega)⟩ ⟨sR.alloc _, sK.alloc _, sB.alloc _⟩
   | 21, ho =>
     cases ho
     refine wpOp_of rfl rfl ?_
     have f20 : ∃ L, SpRow W (wA.heap.size + 1) (aq.tmps.getD 40 undef) 4 L := z6 20 40 (hall { on := 20, ground := Ground.data } (by simp) rfl) rfl
     obtain ⟨Lq, Oq⟩ := f20
     have hK := fun (v : Value) (W2 : World) hW hT hv (hs : Srn5 wA g ao n cap cs y3 y4 y5 y6 W2) => show (Jrn5 wA g ao n cap cs y3 y4 y5 y6 w0 a0) (lq.setIfInBounds 21 true) (aq.put (some 7) v) W2 from ⟨hJ2.put hS 21 7 rfl (by omega) (W' := W2) hW hT v hv, hs⟩
     clear ho hall hl hQ
     generalize (Jrn5 wA g ao n cap cs y3 y4 y5 y6 w0 a0) (lq.setIfInBounds 21 true) = K at hK ⊢
     clear hJ2 hS z1 z2 z3 z4 z6 z7
     obtain ⟨aq2, cq2, eq2⟩ := ownG_slice Oq
     rw [eq2] at Oq
     rw [Array.getD_eq_getD_getElem?] at eq2
     go_simp
     exact hK _ _ z5 (fun _ _ h => h) ⟨Lq, Oq⟩ hs
   | iq + 22, ho => simp at ho
 · intro lq aq W ⟨hJ, hs⟩ hr
   obtain ⟨z1, z2, z3, z4, z5, z6, z7⟩ := hJ
   have hl := listed_of hr [0, 1, 2, 3, 4, 5, 6, 7, 8, 9, 10, 11, 12, 13, 14, 15, 16, 17, 18, 19, 20, 21] [] (by simp) (by kernel_rfl) (by rw [z1]; decide)
   exact hQ aq W z2 z3 (fun e he => z4 e (by simpa using he)) (z6 21 7 (hl 21 (by simp)) rfl) z5 hs
def Vrn8 (wA : World) (g : Nat) (_ao : Option Addr) (_n _cap : Nat) (_cs : List Int) (_B : Nat) : Nat → Value → World → Prop
 | 0, v, _ => v = .pointer (some ⟨g, 0, none⟩)
 | 1, v, _ => ∃ p q : Int, v = .agg #[.int .i64 p, .int .i64 q]
 | 2, v, _ => v = .pointer (some ⟨g, 0, none⟩)
 | 3, v, _ => ∃ p q : Int, v = .agg #[.int .i64 p, .int .i64 q]
 | 4, v, _ => v = .pointer (some ⟨g, 0, none⟩)
 | 5, v, _ => ∃ p q : Int, v = .agg #[.int .i64 p, .int .i64 q]
 | 6, v, W => ∃ L, SpRow W (wA.heap.size + 1) v 3 L
 | 7, v, W => ∃ L, SpRow W (wA.heap.size + 1) v 3 L
 | _, _, _ => True
theorem Vrn8.mono {wA : World} {g : Nat} {ao : Option Addr} {n cap : Nat} {cs : List Int} {B j : Nat} {v : Value} {W W2 : World} (hB : Below W.heap.size W W2) (h : Vrn8 wA g ao n cap cs B j v W) : Vrn8 wA g ao n cap cs B j v W2 := by
 unfold Vrn8 at *
 split <;> simp only at h <;> first | exact h | (obtain ⟨L, O⟩ := h; exact ⟨L, ownG_step O hB⟩) | trivial
theorem Vrn8.kept {wA : World} {g : Nat} {ao : Option Addr} {n cap : Nat} {cs : List Int} {B j : Nat} {v : Value} {W W2 : World} (hgA : g < wA.heap.size) (h : Vrn8 wA g ao n cap cs B j v W) (K : Kept g W W2) : Vrn8 wA g ao n cap cs B j v W2 := by
 unfold Vrn8 at *
 split <;> simp only at h <;> first | exact h | (obtain ⟨L, O⟩ := h; exact ⟨L, ownG_kept O K (by omega)⟩) | trivial
def Srn8 (wA : World) (g : Nat) (ao : Option Addr) (n cap : Nat) (cs : List Int) (W : World) : Prop := Rdr W g ao n cap cs ∧ Kept g wA W ∧ Blk W wA.heap.size [.slice none 0 0]
def Jrn8 (wA : World) (g : Nat) (ao : Option Addr) (n cap : Nat) (cs : List Int) (w0 : World) (a0 : Act) (lz : Array Bool) (az : Act) (W : World) : Prop := InvQ (g) [some 45, some 46, some 47, some 48, some 49, some 50, some 51, some 7] (Vrn8 wA g ao n cap cs (g)) w0 a0 lz az W ∧ Srn8 wA g ao n cap cs W
set_option maxRecDepth 100000 in
set_option maxHeartbeats 4000000 in
theorem rn8 {Q : Exit → Act → World → Prop} {wA : World} {g : Nat} {ao : Option Addr} {n cap : Nat} {cs : List Int}  {w0 : World} {a0 : Act} {idq : Nat} {t0 t1 t2 t3 t4 t5 t6 t7 : TypeId} {q0 q1 q2 q3 q4 q5 q6 q7 : String}
   (hgA : g < wA.heap.size) (h0 : a0.tmps[0]? = some (.pointer (some ⟨g, 0, none⟩)))  (hz : a0.tmps.size = 195) (hs0 : Srn8 wA g ao n cap cs w0)
   (hQ : ∀ aq W, aq.tmps.size = a0.tmps.size → aq.defers = a0.defers → (∀ e, e ∉ ([45, 46, 47, 48, 49, 50, 51, 7] : List Nat) → aq.tmps[e]? = a0.tmps[e]?) → Vrn8 wA g ao n cap cs (g) 7 (aq.tmps.getD 7 undef) W → Below (g) w0 W → Srn8 wA g ao n cap cs W → Q .normal aq W) :
   (Code.region idq #[{ dst := some 45, op := Op.move (Operand.tmp 0), type := t0, pos := q0, after := #[], guard := none },
   { dst := some 46, op := Op.call { callee := Callee.value (Operand.func 78), args := #[Operand.tmp 45], argTypes := #[73] }, type := t1, pos := q1, after := #[{ on := 0, ground := Ground.data }], guard := none },
   { dst := some 47, op := Op.move (Operand.tmp 0), type := t2, pos := q2, after := #[], guard := none },
   { dst := some 48, op := Op.call { callee := Callee.value (Operand.func 78), args := #[Operand.tmp 47], argTypes := #[73] }, type := t3, pos := q3, after := #[{ on := 2, ground := Ground.data }, { on := 1, ground := Ground.chain }], guard := none },
   { dst := some 49, op := Op.move (Operand.tmp 0), type := t4, pos := q4, after := #[], guard := none },
   { dst := some 50, op := Op.call { callee := Callee.value (Operand.func 78), args := #[Operand.tmp 49], argTypes := #[73] }, type := t5, pos := q5, after := #[{ on := 4, ground := Ground.data }, { on := 3, ground := Ground.chain }], guard := none },
   { dst := some 51, op := Op.buildSlice 55 3 #[(0, Operand.tmp 46), (1, Operand.tmp 48), (2, Operand.tmp 50)], type := t6, pos := q6, after := #[{ on := 1, ground := Ground.data }, { on := 3, ground := Ground.data }, { on := 5, ground := Ground.data }], guard := none },
   { dst := some 7, op := Op.assign (Operand.tmp 51), type := t7, pos := q7, after := #[{ on := 6, ground := Ground.data }, { on := 5, ground := Ground.chain }, { on := 0, ground := Ground.phase }, { on := 1, ground := Ground.phase }, { on := 2, ground := Ground.phase }, { on := 3, ground := Ground.phase }, { on := 4, ground := Ground.phase }, { on := 5, ground := Ground.phase }, { on := 6, ground := Ground.phase }], guard := none }] false).wp Tryz.prog Q a0 w0 := by
 have hS : distS [some 45, some 46, some 47, some 48, some 49, some 50, some 51, some 7] = true := rfl
 refine wp_region_invp (Jrn8 wA g ao n cap cs w0 a0) (by kernel_rfl) ⟨⟨rfl, rfl, rfl, fun _ _ => rfl, Below.refl _ w0, fun j d hj => ?_, fun j hj => ?_⟩, hs0⟩ ?_ ?_
 · exfalso
   rw [Array.getD_eq_getD_getElem?, Array.getElem?_replicate] at hj
   split at hj <;> simp at hj
 · exfalso
   rw [Array.getD_eq_getD_getElem?, Array.getElem?_replicate] at hj
   split at hj <;> simp at hj
 · intro lq aq W iq oq ⟨hJ, hs⟩ hl ho hall
   have hJ2 := hJ
   obtain ⟨z1, z2, z3, z4, z5, z6, z7⟩ := hJ
   have g0 : aq.tmps.getD 0 undef = .pointer (some ⟨g, 0, none⟩) := by rw [Array.getD_eq_getD_getElem?, z4 0 (by decide), h0]; rfl
   match iq, ho with
   | 0, ho =>
     cases ho
     refine wpOp_of rfl rfl ?_
     have hK := fun (v : Value) (W2 : World) hW hT hv (hs : Srn8 wA g ao n cap cs W2) => show (Jrn8 wA g ao n cap cs w0 a0) (lq.setIfInBounds 0 true) (aq.put (some 45) v) W2 from ⟨hJ2.put hS 0 45 rfl (by omega) (W' := W2) hW hT v hv, hs⟩
     clear ho hall hl hQ
     generalize (Jrn8 wA g ao n cap cs w0 a0) (lq.setIfInBounds 0 true) = K at hK ⊢
     clear hJ2 hS z1 z2 z3 z4 z6 z7
     go_simp
     exact hK _ _ z5 (fun _ _ h => h) rfl hs
   | 1, ho =>
     cases ho
     refine wpOp_of rfl rfl ?_
     have f0 : (aq.tmps.getD 45 undef) = .pointer (some ⟨g, 0, none⟩) := z6 0 45 (hall { on := 0, ground := Ground.data } (by simp) rfl) rfl
     have hK := fun (v : Value) (W2 : World) hW hT hv (hs : Srn8 wA g ao n cap cs W2) => show (Jrn8 wA g ao n cap cs w0 a0) (lq.setIfInBounds 1 true) (aq.put (some 46) v) W2 from ⟨hJ2.put hS 1 46 rfl (by omega) (W' := W2) hW hT v hv, hs⟩
     clear ho hall hl hQ
     generalize (Jrn8 wA g ao n cap cs w0 a0) (lq.setIfInBounds 1 true) = K at hK ⊢
     clear hJ2 hS z1 z2 z3 z4 z6 z7
     obtain ⟨sR, sK, sB⟩ := hs
     go_simp
     refine (spot_any g ao n cap cs W sR).mono ?_
     rintro e v1 ⟨_, rfl, ⟨p, q, rfl, _, _, _, _⟩, R1, K1⟩
     exact hK _ _ (z5.trans (kept_below sR.lt K1)) (fun _ _ h => Vrn8.kept hgA h K1) ⟨p, q, rfl⟩ ⟨R1, sK.trans K1, sB.kept K1 (by omega)⟩
   | 2, ho =>
     cases ho
     refine wpOp_of rfl rfl ?_
     have hK := fun (v : Value) (W2 : World) hW hT hv (hs : Srn8 wA g ao n cap cs W2) => show (Jrn8 wA g ao n cap cs w0 a0) (lq.setIfInBounds 2 true) (aq.put (some 47) v) W2 from ⟨hJ2.put hS 2 47 rfl (by omega) (W' := W2) hW hT v hv, hs⟩
     clear ho hall hl hQ
     generalize (Jrn8 wA g ao n cap cs w0 a0) (lq.setIfInBounds 2 true) = K at hK ⊢
     clear hJ2 hS z1 z2 z3 z4 z6 z7
     go_simp
     exact hK _ _ z5 (fun _ _ h => h) rfl hs
   | 3, ho =>
     cases ho
     refine wpOp_of rfl rfl ?_
     have f2 : (aq.tmps.getD 47 undef) = .pointer (some ⟨g, 0, none⟩) := z6 2 47 (hall { on := 2, ground := Ground.data } (by simp) rfl) rfl
     have hK := fun (v : Value) (W2 : World) hW hT hv (hs : Srn8 wA g ao n cap cs W2) => show (Jrn8 wA g ao n cap cs w0 a0) (lq.setIfInBounds 3 true) (aq.put (some 48) v) W2 from ⟨hJ2.put hS 3 48 rfl (by omega) (W' := W2) hW hT v hv, hs⟩
     clear ho hall hl hQ
     generalize (Jrn8 wA g ao n cap cs w0 a0) (lq.setIfInBounds 3 true) = K at hK ⊢
     clear hJ2 hS z1 z2 z3 z4 z6 z7
     obtain ⟨sR, sK, sB⟩ := hs
     go_simp
     refine (spot_any g ao n cap cs W sR).mono ?_
     rintro e v1 ⟨_, rfl, ⟨p, q, rfl, _, _, _, _⟩, R1, K1⟩
     exact hK _ _ (z5.trans (kept_below sR.lt K1)) (fun _ _ h => Vrn8.kept hgA h K1) ⟨p, q, rfl⟩ ⟨R1, sK.trans K1, sB.kept K1 (by omega)⟩
   | 4, ho =>
     cases ho
     refine wpOp_of rfl rfl ?_
     have hK := fun (v : Value) (W2 : World) hW hT hv (hs : Srn8 wA g ao n cap cs W2) => show (Jrn8 wA g ao n cap cs w0 a0) (lq.setIfInBounds 4 true) (aq.put (some 49) v) W2 from ⟨hJ2.put hS 4 49 rfl (by omega) (W' := W2) hW hT v hv, hs⟩
     clear ho hall hl hQ
     generalize (Jrn8 wA g ao n cap cs w0 a0) (lq.setIfInBounds 4 true) = K at hK ⊢
     clear hJ2 hS z1 z2 z3 z4 z6 z7
     go_simp
     exact hK _ _ z5 (fun _ _ h => h) rfl hs
   | 5, ho =>
     cases ho
     refine wpOp_of rfl rfl ?_
     have f4 : (aq.tmps.getD 49 undef) = .pointer (some ⟨g, 0, none⟩) := z6 4 49 (hall { on := 4, ground := Ground.data } (by simp) rfl) rfl
     have hK := fun (v : Value) (W2 : World) hW hT hv (hs : Srn8 wA g ao n cap cs W2) => show (Jrn8 wA g ao n cap cs w0 a0) (lq.setIfInBounds 5 true) (aq.put (some 50) v) W2 from ⟨hJ2.put hS 5 50 rfl (by omega) (W' := W2) hW hT v hv, hs⟩
     clear ho hall hl hQ
     generalize (Jrn8 wA g ao n cap cs w0 a0) (lq.setIfInBounds 5 true) = K at hK ⊢
     clear hJ2 hS z1 z2 z3 z4 z6 z7
     obtain ⟨sR, sK, sB⟩ := hs
     go_simp
     refine (spot_any g ao n cap cs W sR).mono ?_
     rintro e v1 ⟨_, rfl, ⟨p, q, rfl, _, _, _, _⟩, R1, K1⟩
     exact hK _ _ (z5.trans (kept_below sR.lt K1)) (fun _ _ h => Vrn8.kept hgA h K1) ⟨p, q, rfl⟩ ⟨R1, sK.trans K1, sB.kept K1 (by omega)⟩
   | 6, ho =>
     cases ho
     refine wpOp_of rfl rfl ?_
     have f1 : ∃ p q : Int, (aq.tmps.getD 46 undef) = .agg #[.int .i64 p, .int .i64 q] := z6 1 46 (hall { on := 1, ground := Ground.data } (by simp) rfl) rfl
     obtain ⟨p1q, r1q, f1⟩ := f1
     have f3 : ∃ p q : Int, (aq.tmps.getD 48 undef) = .agg #[.int .i64 p, .int .i64 q] := z6 3 48 (hall { on := 3, ground := Ground.data } (by simp) rfl) rfl
     obtain ⟨p3q, r3q, f3⟩ := f3
     have f5 : ∃ p q : Int, (aq.tmps.getD 50 undef) = .agg #[.int .i64 p, .int .i64 q] := z6 5 50 (hall { on := 5, ground := Ground.data } (by simp) rfl) rfl
     obtain ⟨p5q, r5q, f5⟩ := f5
     rw [Array.getD_eq_getD_getElem?] at f1
     rw [Array.getD_eq_getD_getElem?] at f3
     rw [Array.getD_eq_getD_getElem?] at f5
     have hK := fun (v : Value) (W2 : World) hW hT hv (hs : Srn8 wA g ao n cap cs W2) => show (Jrn8 wA g ao n cap cs w0 a0) (lq.setIfInBounds 6 true) (aq.put (some 51) v) W2 from ⟨hJ2.put hS 6 51 rfl (by omega) (W' := W2) hW hT v hv, hs⟩
     clear ho hall hl hQ
     generalize (Jrn8 wA g ao n cap cs w0 a0) (lq.setIfInBounds 6 true) = K at hK ⊢
     clear hJ2 hS z1 z2 z3 z4 z6 z7
     obtain ⟨sR, sK, sB⟩ := hs
     have sl := sB.lt
     have zs := z5.size
     go_simp
     exact hK _ _ (z5.alloc (by have := hgA; omega) _) (fun _ _ h => h.mono ((Below.refl _ _).alloc (Nat.le_refl _) _)) ⟨_, sp_made3 _ _ _ _ _ _ _ (by omega)⟩ ⟨sR.alloc _, sK.alloc _, sB.alloc _⟩
   | 7, ho =>
     cases ho
     refine wpOp_of rfl rfl ?_
     have f6 : ∃ L, SpRow W (wA.heap.size + 1) (aq.tmps.getD 51 undef) 3 L := z6 6 51 (hall { on := 6, ground := Ground.data } (by simp) rfl) rfl
     obtain ⟨Lq, Oq⟩ := f6
     have hK := fun (v : Value) (W2 : World) hW hT hv (hs : Srn8 wA g ao n cap cs W2) => show (Jrn8 wA g ao n cap cs w0 a0) (lq.setIfInBounds 7 true) (aq.put (some 7) v) W2 from ⟨hJ2.put hS 7 7 rfl (by omega) (W' := W2) hW hT v hv, hs⟩
     clear ho hall hl hQ
     generalize (Jrn8 wA g ao n cap cs w0 a0) (lq.setIfInBounds 7 true) = K at hK ⊢
     clear hJ2 hS z1 z2 z3 z4 z6 z7
     obtain ⟨aq2, cq2, eq2⟩ := ownG_slice Oq
     rw [eq2] at Oq
     rw [Array.getD_eq_getD_getElem?] at eq2
     go_simp
     exact hK _ _ z5 (fun _ _ h => h) ⟨Lq, Oq⟩ hs
   | iq + 8, ho => simp at ho
 · intro lq aq W ⟨hJ, hs⟩ hr
   obtain ⟨z1, z2, z3, z4, z5, z6, z7⟩ := hJ
   have hl := listed_of hr [0, 1, 2, 3, 4, 5, 6, 7] [] (by simp) (by kernel_rfl) (by rw [z1]; decide)
   exact hQ aq W z2 z3 (fun e he => z4 e (by simpa using he)) (z6 7 7 (hl 7 (by simp)) rfl) z5 hs
def Vrn10 (wA : World) (_g : Nat) (_ao : Option Addr) (_n _cap : Nat) (_cs : List Int) (y3 y4 y5 y6 : Int) (_B : Nat) : Nat → Value → World → Prop
 | 0, v, _ => v = .int .i64 y3
 | 1, v, _ => v = .int .i64 y4
 | 2, v, _ => ∃ p q : Int, v = .agg #[.int .i64 p, .int .i64 q]
 | 3, v, _ => v = .int .i64 y3
 | 4, v, _ => v = .int .i64 y5
 | 5, v, _ => ∃ z : Int, v = .int .i64 z
 | 6, v, _ => ∃ z : Int, v = .int .i64 z
 | 7, v, _ => v = .int .i64 y4
 | 8, v, _ => ∃ p q : Int, v = .agg #[.int .i64 p, .int .i64 q]
 | 9, v, _ => v = .int .i64 y3
 | 10, v, _ => v = .int .i64 y5
 | 11, v, _ => ∃ z : Int, v = .int .i64 z
 | 12, v, _ => ∃ z : Int, v = .int .i64 z
 | 13, v, _ => v = .int .i64 y4
 | 14, v, _ => ∃ z : Int, v = .int .i64 z
 | 15, v, _ => ∃ p q : Int, v = .agg #[.int .i64 p, .int .i64 q]
 | 16, v, _ => v = .int .i64 y3
 | 17, v, _ => ∃ z : Int, v = .int .i64 z
 | 18, v, _ => v = .int .i64 y4
 | 19, v, _ => ∃ z : Int, v = .int .i64 z
 | 20, v, _ => ∃ p q : Int, v = .agg #[.int .i64 p, .int .i64 q]
 | 21, v, _ => v = .int .i64 y3
 | 22, v, _ => ∃ z : Int, v = .int .i64 z
 | 23, v, _ => v = .int .i64 y4
 | 24, v, _ => v = .int .i64 y6
 | 25, v, _ => ∃ z : Int, v = .int .i64 z
 | 26, v, _ => ∃ z : Int, v = .int .i64 z
 | 27, v, _ => ∃ p q : Int, v = .agg #[.int .i64 p, .int .i64 q]
 | 28, v, _ => v = .int .i64 y3
 | 29, v, _ => v = .int .i64 y4
 | 30, v, _ => v = .int .i64 y6
 | 31, v, _ => ∃ z : Int, v = .int .i64 z
 | 32, v, _ => ∃ z : Int, v = .int .i64 z
 | 33, v, _ => ∃ p q : Int, v = .agg #[.int .i64 p, .int .i64 q]
 | 34, v, W => ∃ L, SpRow W (wA.heap.size + 1) v 6 L
 | 35, v, W => ∃ L, SpRow W (wA.heap.size + 1) v 6 L
 | _, _, _ => True
theorem Vrn10.mono {wA : World} {g : Nat} {ao : Option Addr} {n cap : Nat} {cs : List Int} {y3 y4 y5 y6 : Int} {B j : Nat} {v : Value} {W W2 : World} (hB : Below W.heap.size W W2) (h : Vrn10 wA g ao n cap cs y3 y4 y5 y6 B j v W) : Vrn10 wA g ao n cap cs y3 y4 y5 y6 B j v W2 := by
 unfold Vrn10 at *
 split <;> simp only at h <;> first | exact h | (obtain ⟨L, O⟩ := h; exact ⟨L, ownG_step O hB⟩) | trivial
def Srn10 (wA : World) (g : Nat) (ao : Option Addr) (n cap : Nat) (cs : List Int) (_y3 _y4 _y5 _y6 : Int) (W : World) : Prop := Rdr W g ao n cap cs ∧ Kept g wA W ∧ Blk W wA.heap.size [.slice none 0 0]
def Jrn10 (wA : World) (g : Nat) (ao : Option Addr) (n cap : Nat) (cs : List Int) (y3 y4 y5 y6 : Int) (w0 : World) (a0 : Act) (lz : Array Bool) (az : Act) (W : World) : Prop := InvQ (g) [some 54, some 55, some 56, some 57, some 58, some 59, some 60, some 61, some 62, some 63, some 64, some 65, some 66, some 67, some 68, some 69, some 70, some 71, some 72, some 73, some 74, some 75, some 76, some 77, some 78, some 79, some 80, some 81, some 82, some 83, some 84, some 85, some 86, some 87, some 88, some 7] (Vrn10 wA g ao n cap cs y3 y4 y5 y6 (g)) w0 a0 lz az W ∧ Srn10 wA g ao n cap cs y3 y4 y5 y6 W
set_option maxRecDepth 100000 in
set_option maxHeartbeats 4000000 in
theorem rn10 {Q : Exit → Act → World → Prop} {wA : World} {g : Nat} {ao : Option Addr} {n cap : Nat} {cs : List Int} {y3 y4 y5 y6 : Int}  {w0 : World} {a0 : Act} {idq : Nat} {t0 t1 t2 t3 t4 t5 t6 t7 t8 t9 t10 t11 t12 t13 t14 t15 t16 t17 t18 t19 t20 t21 t22 t23 t24 t25 t26 t27 t28 t29 t30 t31 t32 t33 t34 t35 : TypeId} {q0 q1 q2 q3 q4 q5 q6 q7 q8 q9 q10 q11 q12 q13 q14 q15 q16 q17 q18 q19 q20 q21 q22 q23 q24 q25 q26 q27 q28 q29 q30 q31 q32 q33 q34 q35 : String}
   (hgA : g < wA.heap.size) (h0 : a0.tmps[0]? = some (.pointer (some ⟨g, 0, none⟩))) (h3 : a0.tmps[3]? = some (.int .i64 y3)) (h4 : a0.tmps[4]? = some (.int .i64 y4)) (h5 : a0.tmps[5]? = some (.int .i64 y5)) (h6 : a0.tmps[6]? = some (.int .i64 y6))  (hz : a0.tmps.size = 195) (hs0 : Srn10 wA g ao n cap cs y3 y4 y5 y6 w0)
   (hQ : ∀ aq W, aq.tmps.size = a0.tmps.size → aq.defers = a0.defers → (∀ e, e ∉ ([54, 55, 56, 57, 58, 59, 60, 61, 62, 63, 64, 65, 66, 67, 68, 69, 70, 71, 72, 73, 74, 75, 76, 77, 78, 79, 80, 81, 82, 83, 84, 85, 86, 87, 88, 7] : List Nat) → aq.tmps[e]? = a0.tmps[e]?) → Vrn10 wA g ao n cap cs y3 y4 y5 y6 (g) 35 (aq.tmps.getD 7 undef) W → Below (g) w0 W → Srn10 wA g ao n cap cs y3 y4 y5 y6 W → Q .normal aq W) :
   (Code.region idq #[{ dst := some 54, op := Op.move (Operand.tmp 3), type := t0, pos := q0, after := #[], guard := none },
   { dst := some 55, op := Op.move (Operand.tmp 4), type := t1, pos := q1, after := #[], guard := none },
   { dst := some 56, op := Op.build 51 #[(0, Operand.tmp 54), (1, Operand.tmp 55)], type := t2, pos := q2, after := #[{ on := 0, ground := Ground.data }, { on := 1, ground := Ground.data }], guard := none },
   { dst := some 57, op := Op.move (Operand.tmp 3), type := t3, pos := q3, after := #[], guard := none },
   { dst := some 58, op := Op.move (Operand.tmp 5), type := t4, pos := q4, after := #[], guard := none },
   { dst := some 59, op := Op.binOp BinOp.add 2 (Operand.tmp 57) (Operand.tmp 58) 2, type := t5, pos := q5, after := #[{ on := 3, ground := Ground.data }, { on := 4, ground := Ground.data }], guard := none },
   { dst := some 60, op := Op.binOp BinOp.add 2 (Operand.tmp 59) (Operand.const (Value.int IntKind.i64 1)) 2, type := t6, pos := q6, after := #[{ on := 5, ground := Ground.data }], guard := none },
   { dst := some 61, op := Op.move (Operand.tmp 4), type := t7, pos := q7, after := #[], guard := none },
   { dst := some 62, op := Op.build 51 #[(0, Operand.tmp 60), (1, Operand.tmp 61)], type := t8, pos := q8, after := #[{ on := 6, ground := Ground.data }, { on := 7, ground := Ground.data }], guard := none },
   { dst := some 63, op := Op.move (Operand.tmp 3), type := t9, pos := q9, after := #[], guard := none },
   { dst := some 64, op := Op.move (Operand.tmp 5), type := t10, pos := q10, after := #[], guard := none },
   { dst := some 65, op := Op.binOp BinOp.add 2 (Operand.tmp 63) (Operand.tmp 64) 2, type := t11, pos := q11, after := #[{ on := 9, ground := Ground.data }, { on := 10, ground := Ground.data }], guard := none },
   { dst := some 66, op := Op.binOp BinOp.add 2 (Operand.tmp 65) (Operand.const (Value.int IntKind.i64 1)) 2, type := t12, pos := q12, after := #[{ on := 11, ground := Ground.data }], guard := none },
   { dst := some 67, op := Op.move (Operand.tmp 4), type := t13, pos := q13, after := #[], guard := none },
   { dst := some 68, op := Op.binOp BinOp.add 2 (Operand.tmp 67) (Operand.const (Value.int IntKind.i64 1)) 2, type := t14, pos := q14, after := #[{ on := 13, ground := Ground.data }], guard := none },
   { dst := some 69, op := Op.build 51 #[(0, Operand.tmp 66), (1, Operand.tmp 68)], type := t15, pos := q15, after := #[{ on := 12, ground := Ground.data }, { on := 14, ground := Ground.data }], guard := none },
   { dst := some 70, op := Op.move (Operand.tmp 3), type := t16, pos := q16, after := #[], guard := none },
   { dst := some 71, op := Op.binOp BinOp.add 2 (Operand.tmp 70) (Operand.const (Value.int IntKind.i64 1)) 2, type := t17, pos := q17, after := #[{ on := 16, ground := Ground.data }], guard := none },
   { dst := some 72, op := Op.move (Operand.tmp 4), type := t18, pos := q18, after := #[], guard := none },
   { dst := some 73, op := Op.binOp BinOp.add 2 (Operand.tmp 72) (Operand.const (Value.int IntKind.i64 1)) 2, type := t19, pos := q19, after := #[{ on := 18, ground := Ground.data }], guard := none },
   { dst := some 74, op := Op.build 51 #[(0, Operand.tmp 71), (1, Operand.tmp 73)], type := t20, pos := q20, after := #[{ on := 17, ground := Ground.data }, { on := 19, ground := Ground.data }], guard := none },
   { dst := some 75, op := Op.move (Operand.tmp 3), type := t21, pos := q21, after := #[], guard := none },
   { dst := some 76, op := Op.binOp BinOp.add 2 (Operand.tmp 75) (Operand.const (Value.int IntKind.i64 1)) 2, type := t22, pos := q22, after := #[{ on := 21, ground := Ground.data }], guard := none },
   { dst := some 77, op := Op.move (Operand.tmp 4), type := t23, pos := q23, after := #[], guard := none },
   { dst := some 78, op := Op.move (Operand.tmp 6), type := t24, pos := q24, after := #[], guard := none },
   { dst := some 79, op := Op.binOp BinOp.add 2 (Operand.tmp 77) (Operand.tmp 78) 2, type := t25, pos := q25, after := #[{ on := 23, ground := Ground.data }, { on := 24, ground := Ground.data }], guard := none },
   { dst := some 80, op := Op.binOp BinOp.add 2 (Operand.tmp 79) (Operand.const (Value.int IntKind.i64 1)) 2, type := t26, pos := q26, after := #[{ on := 25, ground := Ground.data }], guard := none },
   { dst := some 81, op := Op.build 51 #[(0, Operand.tmp 76), (1, Operand.tmp 80)], type := t27, pos := q27, after := #[{ on := 22, ground := Ground.data }, { on := 26, ground := Ground.data }], guard := none },
   { dst := some 82, op := Op.move (Operand.tmp 3), type := t28, pos := q28, after := #[], guard := none },
   { dst := some 83, op := Op.move (Operand.tmp 4), type := t29, pos := q29, after := #[], guard := none },
   { dst := some 84, op := Op.move (Operand.tmp 6), type := t30, pos := q30, after := #[], guard := none },
   { dst := some 85, op := Op.binOp BinOp.add 2 (Operand.tmp 83) (Operand.tmp 84) 2, type := t31, pos := q31, after := #[{ on := 29, ground := Ground.data }, { on := 30, ground := Ground.data }], guard := none },
   { dst := some 86, op := Op.binOp BinOp.add 2 (Operand.tmp 85) (Operand.const (Value.int IntKind.i64 1)) 2, type := t32, pos := q32, after := #[{ on := 31, ground := Ground.data }], guard := none },
   { dst := some 87, op := Op.build 51 #[(0, Operand.tmp 82), (1, Operand.tmp 86)], type := t33, pos := q33, after := #[{ on := 28, ground := Ground.data }, { on := 32, ground := Ground.data }], guard := none },
   { dst := some 88, op := Op.buildSlice 55 6 #[(0, Operand.tmp 56), (1, Operand.tmp 62), (2, Operand.tmp 69), (3, Operand.tmp 74), (4, Operand.tmp 81), (5, Operand.tmp 87)], type := t34, pos := q34, after := #[{ on := 2, ground := Ground.data }, { on := 8, ground := Ground.data }, { on := 15, ground := Ground.data }, { on := 20, ground := Ground.data }, { on := 27, ground := Ground.data }, { on := 33, ground := Ground.data }], guard := none },
   { dst := some 7, op := Op.assign (Operand.tmp 88), type := t35, pos := q35, after := #[{ on := 34, ground := Ground.data }, { on := 0, ground := Ground.phase }, { on := 1, ground := Ground.phase }, { on := 2, ground := Ground.phase }, { on := 3, ground := Ground.phase }, { on := 4, ground := Ground.phase }, { on := 5, ground := Ground.phase }, { on := 6, ground := Ground.phase }, { on := 7, ground := Ground.phase }, { on := 8, ground := Ground.phase }, { on := 9, ground := Ground.phase }, { on := 10, ground := Ground.phase }, { on := 11, ground := Ground.phase }, { on := 12, ground := Ground.phase }, { on := 13, ground := Ground.phase }, { on := 14, ground := Ground.phase }, { on := 15, ground := Ground.phase }, { on := 16, ground := Ground.phase }, { on := 17, ground := Ground.phase }, { on := 18, ground := Ground.phase }, { on := 19, ground := Ground.phase }, { on := 20, ground := Ground.phase }, { on := 21, ground := Ground.phase }, { on := 22, ground := Ground.phase }, { on := 23, ground := Ground.phase }, { on := 24, ground := Ground.phase }, { on := 25, ground := Ground.phase }, { on := 26, ground := Ground.phase }, { on := 27, ground := Ground.phase }, { on := 28, ground := Ground.phase }, { on := 29, ground := Ground.phase }, { on := 30, ground := Ground.phase }, { on := 31, ground := Ground.phase }, { on := 32, ground := Ground.phase }, { on := 33, ground := Ground.phase }, { on := 34, ground := Ground.phase }], guard := none }] false).wp Tryz.prog Q a0 w0 := by
 have hS : distS [some 54, some 55, some 56, some 57, some 58, some 59, some 60, some 61, some 62, some 63, some 64, some 65, some 66, some 67, some 68, some 69, some 70, some 71, some 72, some 73, some 74, some 75, some 76, some 77, some 78, some 79, some 80, some 81, some 82, some 83, some 84, some 85, some 86, some 87, some 88, some 7] = true := rfl
 refine wp_region_invp (Jrn10 wA g ao n cap cs y3 y4 y5 y6 w0 a0) (by kernel_rfl) ⟨⟨rfl, rfl, rfl, fun _ _ => rfl, Below.refl _ w0, fun j d hj => ?_, fun j hj => ?_⟩, hs0⟩ ?_ ?_
 · exfalso
   rw [Array.getD_eq_getD_getElem?, Array.getElem?_replicate] at hj
   split at hj <;> simp at hj
 · exfalso
   rw [Array.getD_eq_getD_getElem?, Array.getElem?_replicate] at hj
   split at hj <;> simp at hj
 · intro lq aq W iq oq ⟨hJ, hs⟩ hl ho hall
   have hJ2 := hJ
   obtain ⟨z1, z2, z3, z4, z5, z6, z7⟩ := hJ
   have g0 : aq.tmps.getD 0 undef = .pointer (some ⟨g, 0, none⟩) := by rw [Array.getD_eq_getD_getElem?, z4 0 (by decide), h0]; rfl
   have g3 : aq.tmps.getD 3 undef = .int .i64 y3 := by rw [Array.getD_eq_getD_getElem?, z4 3 (by decide), h3]; rfl
   have g4 : aq.tmps.getD 4 undef = .int .i64 y4 := by rw [Array.getD_eq_getD_getElem?, z4 4 (by decide), h4]; rfl
   have g5 : aq.tmps.getD 5 undef = .int .i64 y5 := by rw [Array.getD_eq_getD_getElem?, z4 5 (by decide), h5]; rfl
   have g6 : aq.tmps.getD 6 undef = .int .i64 y6 := by rw [Array.getD_eq_getD_getElem?, z4 6 (by decide), h6]; rfl
   match iq, ho with
   | 0, ho =>
     cases ho
     refine wpOp_of rfl rfl ?_
     have hK := fun (v : Value) (W2 : World) hW hT hv (hs : Srn10 wA g ao n cap cs y3 y4 y5 y6 W2) => show (Jrn10 wA g ao n cap cs y3 y4 y5 y6 w0 a0) (lq.setIfInBounds 0 true) (aq.put (some 54) v) W2 from ⟨hJ2.put hS 0 54 rfl (by omega) (W' := W2) hW hT v hv, hs⟩
     clear ho hall hl hQ
     generalize (Jrn10 wA g ao n cap cs y3 y4 y5 y6 w0 a0) (lq.setIfInBounds 0 true) = K at hK ⊢
     clear hJ2 hS z1 z2 z3 z4 z6 z7
     go_simp
     exact hK _ _ z5 (fun _ _ h => h) rfl hs
   | 1, ho =>
     cases ho
     refine wpOp_of rfl rfl ?_
     have hK := fun (v : Value) (W2 : World) hW hT hv (hs : Srn10 wA g ao n cap cs y3 y4 y5 y6 W2) => show (Jrn10 wA g ao n cap cs y3 y4 y5 y6 w0 a0) (lq.setIfInBounds 1 true) (aq.put (some 55) v) W2 from ⟨hJ2.put hS 1 55 rfl (by omega) (W' := W2) hW hT v hv, hs⟩
     clear ho hall hl hQ
     generalize (Jrn10 wA g ao n cap cs y3 y4 y5 y6 w0 a0) (lq.setIfInBounds 1 true) = K at hK ⊢
     clear hJ2 hS z1 z2 z3 z4 z6 z7
     go_simp
     exact hK _ _ z5 (fun _ _ h => h) rfl hs
   | 2, ho =>
     cases ho
     refine wpOp_of rfl rfl ?_
     have f0 : (aq.tmps.getD 54 undef) = .int .i64 y3 := z6 0 54 (hall { on := 0, ground := Ground.data } (by simp) rfl) rfl
     have f1 : (aq.tmps.getD 55 undef) = .int .i64 y4 := z6 1 55 (hall { on := 1, ground := Ground.data } (by simp) rfl) rfl
     rw [Array.getD_eq_getD_getElem?] at f0
     rw [Array.getD_eq_getD_getElem?] at f1
     have hK := fun (v : Value) (W2 : World) hW hT hv (hs : Srn10 wA g ao n cap cs y3 y4 y5 y6 W2) => show (Jrn10 wA g ao n cap cs y3 y4 y5 y6 w0 a0) (lq.setIfInBounds 2 true) (aq.put (some 56) v) W2 from ⟨hJ2.put hS 2 56 rfl (by omega) (W' := W2) hW hT v hv, hs⟩
     clear ho hall hl hQ
     generalize (Jrn10 wA g ao n cap cs y3 y4 y5 y6 w0 a0) (lq.setIfInBounds 2 true) = K at hK ⊢
     clear hJ2 hS z1 z2 z3 z4 z6 z7
     go_simp
     exact hK _ _ z5 (fun _ _ h => h) ⟨_, _, rfl⟩ hs
   | 3, ho =>
     cases ho
     refine wpOp_of rfl rfl ?_
     have hK := fun (v : Value) (W2 : World) hW hT hv (hs : Srn10 wA g ao n cap cs y3 y4 y5 y6 W2) => show (Jrn10 wA g ao n cap cs y3 y4 y5 y6 w0 a0) (lq.setIfInBounds 3 true) (aq.put (some 57) v) W2 from ⟨hJ2.put hS 3 57 rfl (by omega) (W' := W2) hW hT v hv, hs⟩
     clear ho hall hl hQ
     generalize (Jrn10 wA g ao n cap cs y3 y4 y5 y6 w0 a0) (lq.setIfInBounds 3 true) = K at hK ⊢
     clear hJ2 hS z1 z2 z3 z4 z6 z7
     go_simp
     exact hK _ _ z5 (fun _ _ h => h) rfl hs
   | 4, ho =>
     cases ho
     refine wpOp_of rfl rfl ?_
     have hK := fun (v : Value) (W2 : World) hW hT hv (hs : Srn10 wA g ao n cap cs y3 y4 y5 y6 W2) => show (Jrn10 wA g ao n cap cs y3 y4 y5 y6 w0 a0) (lq.setIfInBounds 4 true) (aq.put (some 58) v) W2 from ⟨hJ2.put hS 4 58 rfl (by omega) (W' := W2) hW hT v hv, hs⟩
     clear ho hall hl hQ
     generalize (Jrn10 wA g ao n cap cs y3 y4 y5 y6 w0 a0) (lq.setIfInBounds 4 true) = K at hK ⊢
     clear hJ2 hS z1 z2 z3 z4 z6 z7
     go_simp
     exact hK _ _ z5 (fun _ _ h => h) rfl hs
   | 5, ho =>
     cases ho
     refine wpOp_of rfl rfl ?_
     have f3 : (aq.tmps.getD 57 undef) = .int .i64 y3 := z6 3 57 (hall { on := 3, ground := Ground.data } (by simp) rfl) rfl
     have f4 : (aq.tmps.getD 58 undef) = .int .i64 y5 := z6 4 58 (hall { on := 4, ground := Ground.data } (by simp) rfl) rfl
     have hK := fun (v : Value) (W2 : World) hW hT hv (hs : Srn10 wA g ao n cap cs y3 y4 y5 y6 W2) => show (Jrn10 wA g ao n cap cs y3 y4 y5 y6 w0 a0) (lq.setIfInBounds 5 true) (aq.put (some 59) v) W2 from ⟨hJ2.put hS 5 59 rfl (by omega) (W' := W2) hW hT v hv, hs⟩
     clear ho hall hl hQ
     generalize (Jrn10 wA g ao n cap cs y3 y4 y5 y6 w0 a0) (lq.setIfInBounds 5 true) = K at hK ⊢
     clear hJ2 hS z1 z2 z3 z4 z6 z7
     go_simp
     exact hK _ _ z5 (fun _ _ h => h) ⟨_, rfl⟩ hs
   | 6, ho =>
     cases ho
     refine wpOp_of rfl rfl ?_
     have f5 : ∃ z : Int, (aq.tmps.getD 59 undef) = .int .i64 z := z6 5 59 (hall { on := 5, ground := Ground.data } (by simp) rfl) rfl
     obtain ⟨z5q, f5⟩ := f5
     have hK := fun (v : Value) (W2 : World) hW hT hv (hs : Srn10 wA g ao n cap cs y3 y4 y5 y6 W2) => show (Jrn10 wA g ao n cap cs y3 y4 y5 y6 w0 a0) (lq.setIfInBounds 6 true) (aq.put (some 60) v) W2 from ⟨hJ2.put hS 6 60 rfl (by omega) (W' := W2) hW hT v hv, hs⟩
     clear ho hall hl hQ
     generalize (Jrn10 wA g ao n cap cs y3 y4 y5 y6 w0 a0) (lq.setIfInBounds 6 true) = K at hK ⊢
     clear hJ2 hS z1 z2 z3 z4 z6 z7
     go_simp
     exact hK _ _ z5 (fun _ _ h => h) ⟨_, rfl⟩ hs
   | 7, ho =>
     cases ho
     refine wpOp_of rfl rfl ?_
     have hK := fun (v : Value) (W2 : World) hW hT hv (hs : Srn10 wA g ao n cap cs y3 y4 y5 y6 W2) => show (Jrn10 wA g ao n cap cs y3 y4 y5 y6 w0 a0) (lq.setIfInBounds 7 true) (aq.put (some 61) v) W2 from ⟨hJ2.put hS 7 61 rfl (by omega) (W' := W2) hW hT v hv, hs⟩
     clear ho hall hl hQ
     generalize (Jrn10 wA g ao n cap cs y3 y4 y5 y6 w0 a0) (lq.setIfInBounds 7 true) = K at hK ⊢
     clear hJ2 hS z1 z2 z3 z4 z6 z7
     go_simp
     exact hK _ _ z5 (fun _ _ h => h) rfl hs
   | 8, ho =>
     cases ho
     refine wpOp_of rfl rfl ?_
     have f6 : ∃ z : Int, (aq.tmps.getD 60 undef) = .int .i64 z := z6 6 60 (hall { on := 6, ground := Ground.data } (by simp) rfl) rfl
     obtain ⟨z6q, f6⟩ := f6
     have f7 : (aq.tmps.getD 61 undef) = .int .i64 y4 := z6 7 61 (hall { on := 7, ground := Ground.data } (by simp) rfl) rfl
     rw [Array.getD_eq_getD_getElem?] at f6
     rw [Array.getD_eq_getD_getElem?] at f7
     have hK := fun (v : Value) (W2 : World) hW hT hv (hs : Srn10 wA g ao n cap cs y3 y4 y5 y6 W2) => show (Jrn10 wA g ao n cap cs y3 y4 y5 y6 w0 a0) (lq.setIfInBounds 8 true) (aq.put (some 62) v) W2 from ⟨hJ2.put hS 8 62 rfl (by omega) (W' := W2) hW hT v hv, hs⟩
     clear ho hall hl hQ
     generalize (Jrn10 wA g ao n cap cs y3 y4 y5 y6 w0 a0) (lq.setIfInBounds 8 true) = K at hK ⊢
     clear hJ2 hS z1 z2 z3 z4 z6 z7
     go_simp
     exact hK _ _ z5 (fun _ _ h => h) ⟨_, _, rfl⟩ hs
   | 9, ho =>
     cases ho
     refine wpOp_of rfl rfl ?_
     have hK := fun (v : Value) (W2 : World) hW hT hv (hs : Srn10 wA g ao n cap cs y3 y4 y5 y6 W2) => show (Jrn10 wA g ao n cap cs y3 y4 y5 y6 w0 a0) (lq.setIfInBounds 9 true) (aq.put (some 63) v) W2 from ⟨hJ2.put hS 9 63 rfl (by omega) (W' := W2) hW hT v hv, hs⟩
     clear ho hall hl hQ
     generalize (Jrn10 wA g ao n cap cs y3 y4 y5 y6 w0 a0) (lq.setIfInBounds 9 true) = K at hK ⊢
     clear hJ2 hS z1 z2 z3 z4 z6 z7
     go_simp
     exact hK _ _ z5 (fun _ _ h => h) rfl hs
   | 10, ho =>
     cases ho
     refine wpOp_of rfl rfl ?_
     have hK := fun (v : Value) (W2 : World) hW hT hv (hs : Srn10 wA g ao n cap cs y3 y4 y5 y6 W2) => show (Jrn10 wA g ao n cap cs y3 y4 y5 y6 w0 a0) (lq.setIfInBounds 10 true) (aq.put (some 64) v) W2 from ⟨hJ2.put hS 10 64 rfl (by omega) (W' := W2) hW hT v hv, hs⟩
     clear ho hall hl hQ
     generalize (Jrn10 wA g ao n cap cs y3 y4 y5 y6 w0 a0) (lq.setIfInBounds 10 true) = K at hK ⊢
     clear hJ2 hS z1 z2 z3 z4 z6 z7
     go_simp
     exact hK _ _ z5 (fun _ _ h => h) rfl hs
   | 11, ho =>
     cases ho
     refine wpOp_of rfl rfl ?_
     have f9 : (aq.tmps.getD 63 undef) = .int .i64 y3 := z6 9 63 (hall { on := 9, ground := Ground.data } (by simp) rfl) rfl
     have f10 : (aq.tmps.getD 64 undef) = .int .i64 y5 := z6 10 64 (hall { on := 10, ground := Ground.data } (by simp) rfl) rfl
     have hK := fun (v : Value) (W2 : World) hW hT hv (hs : Srn10 wA g ao n cap cs y3 y4 y5 y6 W2) => show (Jrn10 wA g ao n cap cs y3 y4 y5 y6 w0 a0) (lq.setIfInBounds 11 true) (aq.put (some 65) v) W2 from ⟨hJ2.put hS 11 65 rfl (by omega) (W' := W2) hW hT v hv, hs⟩
     clear ho hall hl hQ
     generalize (Jrn10 wA g ao n cap cs y3 y4 y5 y6 w0 a0) (lq.setIfInBounds 11 true) = K at hK ⊢
     clear hJ2 hS z1 z2 z3 z4 z6 z7
     go_simp
     exact hK _ _ z5 (fun _ _ h => h) ⟨_, rfl⟩ hs
   | 12, ho =>
     cases ho
     refine wpOp_of rfl rfl ?_
     have f11 : ∃ z : Int, (aq.tmps.getD 65 undef) = .int .i64 z := z6 11 65 (hall { on := 11, ground := Ground.data } (by simp) rfl) rfl
     obtain ⟨z11q, f11⟩ := f11
     have hK := fun (v : Value) (W2 : World) hW hT hv (hs : Srn10 wA g ao n cap cs y3 y4 y5 y6 W2) => show (Jrn10 wA g ao n cap cs y3 y4 y5 y6 w0 a0) (lq.setIfInBounds 12 true) (aq.put (some 66) v) W2 from ⟨hJ2.put hS 12 66 rfl (by omega) (W' := W2) hW hT v hv, hs⟩
     clear ho hall hl hQ
     generalize (Jrn10 wA g ao n cap cs y3 y4 y5 y6 w0 a0) (lq.setIfInBounds 12 true) = K at hK ⊢
     clear hJ2 hS z1 z2 z3 z4 z6 z7
     go_simp
     exact hK _ _ z5 (fun _ _ h => h) ⟨_, rfl⟩ hs
   | 13, ho =>
     cases ho
     refine wpOp_of rfl rfl ?_
     have hK := fun (v : Value) (W2 : World) hW hT hv (hs : Srn10 wA g ao n cap cs y3 y4 y5 y6 W2) => show (Jrn10 wA g ao n cap cs y3 y4 y5 y6 w0 a0) (lq.setIfInBounds 13 true) (aq.put (some 67) v) W2 from ⟨hJ2.put hS 13 67 rfl (by omega) (W' := W2) hW hT v hv, hs⟩
     clear ho hall hl hQ
     generalize (Jrn10 wA g ao n cap cs y3 y4 y5 y6 w0 a0) (lq.setIfInBounds 13 true) = K at hK ⊢
     clear hJ2 hS z1 z2 z3 z4 z6 z7
     go_simp
     exact hK _ _ z5 (fun _ _ h => h) rfl hs
   | 14, ho =>
     cases ho
     refine wpOp_of rfl rfl ?_
     have f13 : (aq.tmps.getD 67 undef) = .int .i64 y4 := z6 13 67 (hall { on := 13, ground := Ground.data } (by simp) rfl) rfl
     have hK := fun (v : Value) (W2 : World) hW hT hv (hs : Srn10 wA g ao n cap cs y3 y4 y5 y6 W2) => show (Jrn10 wA g ao n cap cs y3 y4 y5 y6 w0 a0) (lq.setIfInBounds 14 true) (aq.put (some 68) v) W2 from ⟨hJ2.put hS 14 68 rfl (by omega) (W' := W2) hW hT v hv, hs⟩
     clear ho hall hl hQ
     generalize (Jrn10 wA g ao n cap cs y3 y4 y5 y6 w0 a0) (lq.setIfInBounds 14 true) = K at hK ⊢
     clear hJ2 hS z1 z2 z3 z4 z6 z7
     go_simp
     exact hK _ _ z5 (fun _ _ h => h) ⟨_, rfl⟩ hs
   | 15, ho =>
     cases ho
     refine wpOp_of rfl rfl ?_
     have f12 : ∃ z : Int, (aq.tmps.getD 66 undef) = .int .i64 z := z6 12 66 (hall { on := 12, ground := Ground.data } (by simp) rfl) rfl
     obtain ⟨z12q, f12⟩ := f12
     have f14 : ∃ z : Int, (aq.tmps.getD 68 undef) = .int .i64 z := z6 14 68 (hall { on := 14, ground := Ground.data } (by simp) rfl) rfl
     obtain ⟨z14q, f14⟩ := f14
     rw [Array.getD_eq_getD_getElem?] at f12
     rw [Array.getD_eq_getD_getElem?] at f14
     have hK := fun (v : Value) (W2 : World) hW hT hv (hs : Srn10 wA g ao n cap cs y3 y4 y5 y6 W2) => show (Jrn10 wA g ao n cap cs y3 y4 y5 y6 w0 a0) (lq.setIfInBounds 15 true) (aq.put (some 69) v) W2 from ⟨hJ2.put hS 15 69 rfl (by omega) (W' := W2) hW hT v hv, hs⟩
     clear ho hall hl hQ
     generalize (Jrn10 wA g ao n cap cs y3 y4 y5 y6 w0 a0) (lq.setIfInBounds 15 true) = K at hK ⊢
     clear hJ2 hS z1 z2 z3 z4 z6 z7
     go_simp
     exact hK _ _ z5 (fun _ _ h => h) ⟨_, _, rfl⟩ hs
   | 16, ho =>
     cases ho
     refine wpOp_of rfl rfl ?_
     have hK := fun (v : Value) (W2 : World) hW hT hv (hs : Srn10 wA g ao n cap cs y3 y4 y5 y6 W2) => show (Jrn10 wA g ao n cap cs y3 y4 y5 y6 w0 a0) (lq.setIfInBounds 16 true) (aq.put (some 70) v) W2 from ⟨hJ2.put hS 16 70 rfl (by omega) (W' := W2) hW hT v hv, hs⟩
     clear ho hall hl hQ
     generalize (Jrn10 wA g ao n cap cs y3 y4 y5 y6 w0 a0) (lq.setIfInBounds 16 true) = K at hK ⊢
     clear hJ2 hS z1 z2 z3 z4 z6 z7
     go_simp
     exact hK _ _ z5 (fun _ _ h => h) rfl hs
   | 17, ho =>
     cases ho
     refine wpOp_of rfl rfl ?_
     have f16 : (aq.tmps.getD 70 undef) = .int .i64 y3 := z6 16 70 (hall { on := 16, ground := Ground.data } (by simp) rfl) rfl
     have hK := fun (v : Value) (W2 : World) hW hT hv (hs : Srn10 wA g ao n cap cs y3 y4 y5 y6 W2) => show (Jrn10 wA g ao n cap cs y3 y4 y5 y6 w0 a0) (lq.setIfInBounds 17 true) (aq.put (some 71) v) W2 from ⟨hJ2.put hS 17 71 rfl (by omega) (W' := W2) hW hT v hv, hs⟩
     clear ho hall hl hQ
     generalize (Jrn10 wA g ao n cap cs y3 y4 y5 y6 w0 a0) (lq.setIfInBounds 17 true) = K at hK ⊢
     clear hJ2 hS z1 z2 z3 z4 z6 z7
     go_simp
     exact hK _ _ z5 (fun _ _ h => h) ⟨_, rfl⟩ hs
   | 18, ho =>
     cases ho
     refine wpOp_of rfl rfl ?_
     have hK := fun (v : Value) (W2 : World) hW hT hv (hs : Srn10 wA g ao n cap cs y3 y4 y5 y6 W2) => show (Jrn10 wA g ao n cap cs y3 y4 y5 y6 w0 a0) (lq.setIfInBounds 18 true) (aq.put (some 72) v) W2 from ⟨hJ2.put hS 18 72 rfl (by omega) (W' := W2) hW hT v hv, hs⟩
     clear ho hall hl hQ
     generalize (Jrn10 wA g ao n cap cs y3 y4 y5 y6 w0 a0) (lq.setIfInBounds 18 true) = K at hK ⊢
     clear hJ2 hS z1 z2 z3 z4 z6 z7
     go_simp
     exact hK _ _ z5 (fun _ _ h => h) rfl hs
   | 19, ho =>
     cases ho
     refine wpOp_of rfl rfl ?_
     have f18 : (aq.tmps.getD 72 undef) = .int .i64 y4 := z6 18 72 (hall { on := 18, ground := Ground.data } (by simp) rfl) rfl
     have hK := fun (v : Value) (W2 : World) hW hT hv (hs : Srn10 wA g ao n cap cs y3 y4 y5 y6 W2) => show (Jrn10 wA g ao n cap cs y3 y4 y5 y6 w0 a0) (lq.setIfInBounds 19 true) (aq.put (some 73) v) W2 from ⟨hJ2.put hS 19 73 rfl (by omega) (W' := W2) hW hT v hv, hs⟩
     clear ho hall hl hQ
     generalize (Jrn10 wA g ao n cap cs y3 y4 y5 y6 w0 a0) (lq.setIfInBounds 19 true) = K at hK ⊢
     clear hJ2 hS z1 z2 z3 z4 z6 z7
     go_simp
     exact hK _ _ z5 (fun _ _ h => h) ⟨_, rfl⟩ hs
   | 20, ho =>
     cases ho
     refine wpOp_of rfl rfl ?_
     have f17 : ∃ z : Int, (aq.tmps.getD 71 undef) = .int .i64 z := z6 17 71 (hall { on := 17, ground := Ground.data } (by simp) rfl) rfl
     obtain ⟨z17q, f17⟩ := f17
     have f19 : ∃ z : Int, (aq.tmps.getD 73 undef) = .int .i64 z := z6 19 73 (hall { on := 19, ground := Ground.data } (by simp) rfl) rfl
     obtain ⟨z19q, f19⟩ := f19
     rw [Array.getD_eq_getD_getElem?] at f17
     rw [Array.getD_eq_getD_getElem?] at f19
     have hK := fun (v : Value) (W2 : World) hW hT hv (hs : Srn10 wA g ao n cap cs y3 y4 y5 y6 W2) => show (Jrn10 wA g ao n cap cs y3 y4 y5 y6 w0 a0) (lq.setIfInBounds 20 true) (aq.put (some 74) v) W2 from ⟨hJ2.put hS 20 74 rfl (by omega) (W' := W2) hW hT v hv, hs⟩
     clear ho hall hl hQ
     generalize (Jrn10 wA g ao n cap cs y3 y4 y5 y6 w0 a0) (lq.setIfInBounds 20 true) = K at hK ⊢
     clear hJ2 hS z1 z2 z3 z4 z6 z7
     go_simp
     exact hK _ _ z5 (fun _ _ h => h) ⟨_, _, rfl⟩ hs
   | 21, ho =>
     cases ho
     refine wpOp_of rfl rfl ?_
     have hK := fun (v : Value) (W2 : World) hW hT hv (hs : Srn10 wA g ao n cap cs y3 y4 y5 y6 W2) => show (Jrn10 wA g ao n cap cs y3 y4 y5 y6 w0 a0) (lq.setIfInBounds 21 true) (aq.put (some 75) v) W2 from ⟨hJ2.put hS 21 75 rfl (by omega) (W' := W2) hW hT v hv, hs⟩
     clear ho hall hl hQ
     generalize (Jrn10 wA g ao n cap cs y3 y4 y5 y6 w0 a0) (lq.setIfInBounds 21 true) = K at hK ⊢
     clear hJ2 hS z1 z2 z3 z4 z6 z7
     go_simp
     exact hK _ _ z5 (fun _ _ h => h) rfl hs
   | 22, ho =>
     cases ho
     refine wpOp_of rfl rfl ?_
     have f21 : (aq.tmps.getD 75 undef) = .int .i64 y3 := z6 21 75 (hall { on := 21, ground := Ground.data } (by simp) rfl) rfl
     have hK := fun (v : Value) (W2 : World) hW hT hv (hs : Srn10 wA g ao n cap cs y3 y4 y5 y6 W2) => show (Jrn10 wA g ao n cap cs y3 y4 y5 y6 w0 a0) (lq.setIfInBounds 22 true) (aq.put (some 76) v) W2 from ⟨hJ2.put hS 22 76 rfl (by omega) (W' := W2) hW hT v hv, hs⟩
     clear ho hall hl hQ
     generalize (Jrn10 wA g ao n cap cs y3 y4 y5 y6 w0 a0) (lq.setIfInBounds 22 true) = K at hK ⊢
     clear hJ2 hS z1 z2 z3 z4 z6 z7
     go_simp
     exact hK _ _ z5 (fun _ _ h => h) ⟨_, rfl⟩ hs
   | 23, ho =>
     cases ho
     refine wpOp_of rfl rfl ?_
     have hK := fun (v : Value) (W2 : World) hW hT hv (hs : Srn10 wA g ao n cap cs y3 y4 y5 y6 W2) => show (Jrn10 wA g ao n cap cs y3 y4 y5 y6 w0 a0) (lq.setIfInBounds 23 true) (aq.put (some 77) v) W2 from ⟨hJ2.put hS 23 77 rfl (by omega) (W' := W2) hW hT v hv, hs⟩
     clear ho hall hl hQ
     generalize (Jrn10 wA g ao n cap cs y3 y4 y5 y6 w0 a0) (lq.setIfInBounds 23 true) = K at hK ⊢
     clear hJ2 hS z1 z2 z3 z4 z6 z7
     go_simp
     exact hK _ _ z5 (fun _ _ h => h) rfl hs
   | 24, ho =>
     cases ho
     refine wpOp_of rfl rfl ?_
     have hK := fun (v : Value) (W2 : World) hW hT hv (hs : Srn10 wA g ao n cap cs y3 y4 y5 y6 W2) => show (Jrn10 wA g ao n cap cs y3 y4 y5 y6 w0 a0) (lq.setIfInBounds 24 true) (aq.put (some 78) v) W2 from ⟨hJ2.put hS 24 78 rfl (by omega) (W' := W2) hW hT v hv, hs⟩
     clear ho hall hl hQ
     generalize (Jrn10 wA g ao n cap cs y3 y4 y5 y6 w0 a0) (lq.setIfInBounds 24 true) = K at hK ⊢
     clear hJ2 hS z1 z2 z3 z4 z6 z7
     go_simp
     exact hK _ _ z5 (fun _ _ h => h) rfl hs
   | 25, ho =>
     cases ho
     refine wpOp_of rfl rfl ?_
     have f23 : (aq.tmps.getD 77 undef) = .int .i64 y4 := z6 23 77 (hall { on := 23, ground := Ground.data } (by simp) rfl) rfl
     have f24 : (aq.tmps.getD 78 undef) = .int .i64 y6 := z6 24 78 (hall { on := 24, ground := Ground.data } (by simp) rfl) rfl
     have hK := fun (v : Value) (W2 : World) hW hT hv (hs : Srn10 wA g ao n cap cs y3 y4 y5 y6 W2) => show (Jrn10 wA g ao n cap cs y3 y4 y5 y6 w0 a0) (lq.setIfInBounds 25 true) (aq.put (some 79) v) W2 from ⟨hJ2.put hS 25 79 rfl (by omega) (W' := W2) hW hT v hv, hs⟩
     clear ho hall hl hQ
     generalize (Jrn10 wA g ao n cap cs y3 y4 y5 y6 w0 a0) (lq.setIfInBounds 25 true) = K at hK ⊢
     clear hJ2 hS z1 z2 z3 z4 z6 z7
     go_simp
     exact hK _ _ z5 (fun _ _ h => h) ⟨_, rfl⟩ hs
   | 26, ho =>
     cases ho
     refine wpOp_of rfl rfl ?_
     have f25 : ∃ z : Int, (aq.tmps.getD 79 undef) = .int .i64 z := z6 25 79 (hall { on := 25, ground := Ground.data } (by simp) rfl) rfl
     obtain ⟨z25q, f25⟩ := f25
     have hK := fun (v : Value) (W2 : World) hW hT hv (hs : Srn10 wA g ao n cap cs y3 y4 y5 y6 W2) => show (Jrn10 wA g ao n cap cs y3 y4 y5 y6 w0 a0) (lq.setIfInBounds 26 true) (aq.put (some 80) v) W2 from ⟨hJ2.put hS 26 80 rfl (by omega) (W' := W2) hW hT v hv, hs⟩
     clear ho hall hl hQ
     generalize (Jrn10 wA g ao n cap cs y3 y4 y5 y6 w0 a0) (lq.setIfInBounds 26 true) = K at hK ⊢
     clear hJ2 hS z1 z2 z3 z4 z6 z7
     go_simp
     exact hK _ _ z5 (fun _ _ h => h) ⟨_, rfl⟩ hs
   | 27, ho =>
     cases ho
     refine wpOp_of rfl rfl ?_
     have f22 : ∃ z : Int, (aq.tmps.getD 76 undef) = .int .i64 z := z6 22 76 (hall { on := 22, ground := Ground.data } (by simp) rfl) rfl
     obtain ⟨z22q, f22⟩ := f22
     have f26 : ∃ z : Int, (aq.tmps.getD 80 undef) = .int .i64 z := z6 26 80 (hall { on := 26, ground := Ground.data } (by simp) rfl) rfl
     obtain ⟨z26q, f26⟩ := f26
     rw [Array.getD_eq_getD_getElem?] at f22
     rw [Array.getD_eq_getD_getElem?] at f26
     have hK := fun (v : Value) (W2 : World) hW hT hv (hs : Srn10 wA g ao n cap cs y3 y4 y5 y6 W2) => show (Jrn10 wA g ao n cap cs y3 y4 y5 y6 w0 a0) (lq.setIfInBounds 27 true) (aq.put (some 81) v) W2 from ⟨hJ2.put hS 27 81 rfl (by omega) (W' := W2) hW hT v hv, hs⟩
     clear ho hall hl hQ
     generalize (Jrn10 wA g ao n cap cs y3 y4 y5 y6 w0 a0) (lq.setIfInBounds 27 true) = K at hK ⊢
     clear hJ2 hS z1 z2 z3 z4 z6 z7
     go_simp
     exact hK _ _ z5 (fun _ _ h => h) ⟨_, _, rfl⟩ hs
   | 28, ho =>
     cases ho
     refine wpOp_of rfl rfl ?_
     have hK := fun (v : Value) (W2 : World) hW hT hv (hs : Srn10 wA g ao n cap cs y3 y4 y5 y6 W2) => show (Jrn10 wA g ao n cap cs y3 y4 y5 y6 w0 a0) (lq.setIfInBounds 28 true) (aq.put (some 82) v) W2 from ⟨hJ2.put hS 28 82 rfl (by omega) (W' := W2) hW hT v hv, hs⟩
     clear ho hall hl hQ
     generalize (Jrn10 wA g ao n cap cs y3 y4 y5 y6 w0 a0) (lq.setIfInBounds 28 true) = K at hK ⊢
     clear hJ2 hS z1 z2 z3 z4 z6 z7
     go_simp
     exact hK _ _ z5 (fun _ _ h => h) rfl hs
   | 29, ho =>
     cases ho
     refine wpOp_of rfl rfl ?_
     have hK := fun (v : Value) (W2 : World) hW hT hv (hs : Srn10 wA g ao n cap cs y3 y4 y5 y6 W2) => show (Jrn10 wA g ao n cap cs y3 y4 y5 y6 w0 a0) (lq.setIfInBounds 29 true) (aq.put (some 83) v) W2 from ⟨hJ2.put hS 29 83 rfl (by omega) (W' := W2) hW hT v hv, hs⟩
     clear ho hall hl hQ
     generalize (Jrn10 wA g ao n cap cs y3 y4 y5 y6 w0 a0) (lq.setIfInBounds 29 true) = K at hK ⊢
     clear hJ2 hS z1 z2 z3 z4 z6 z7
     go_simp
     exact hK _ _ z5 (fun _ _ h => h) rfl hs
   | 30, ho =>
     cases ho
     refine wpOp_of rfl rfl ?_
     have hK := fun (v : Value) (W2 : World) hW hT hv (hs : Srn10 wA g ao n cap cs y3 y4 y5 y6 W2) => show (Jrn10 wA g ao n cap cs y3 y4 y5 y6 w0 a0) (lq.setIfInBounds 30 true) (aq.put (some 84) v) W2 from ⟨hJ2.put hS 30 84 rfl (by omega) (W' := W2) hW hT v hv, hs⟩
     clear ho hall hl hQ
     generalize (Jrn10 wA g ao n cap cs y3 y4 y5 y6 w0 a0) (lq.setIfInBounds 30 true) = K at hK ⊢
     clear hJ2 hS z1 z2 z3 z4 z6 z7
     go_simp
     exact hK _ _ z5 (fun _ _ h => h) rfl hs
   | 31, ho =>
     cases ho
     refine wpOp_of rfl rfl ?_
     have f29 : (aq.tmps.getD 83 undef) = .int .i64 y4 := z6 29 83 (hall { on := 29, ground := Ground.data } (by simp) rfl) rfl
     have f30 : (aq.tmps.getD 84 undef) = .int .i64 y6 := z6 30 84 (hall { on := 30, ground := Ground.data } (by simp) rfl) rfl
     have hK := fun (v : Value) (W2 : World) hW hT hv (hs : Srn10 wA g ao n cap cs y3 y4 y5 y6 W2) => show (Jrn10 wA g ao n cap cs y3 y4 y5 y6 w0 a0) (lq.setIfInBounds 31 true) (aq.put (some 85) v) W2 from ⟨hJ2.put hS 31 85 rfl (by omega) (W' := W2) hW hT v hv, hs⟩
     clear ho hall hl hQ
     generalize (Jrn10 wA g ao n cap cs y3 y4 y5 y6 w0 a0) (lq.setIfInBounds 31 true) = K at hK ⊢
     clear hJ2 hS z1 z2 z3 z4 z6 z7
     go_simp
     exact hK _ _ z5 (fun _ _ h => h) ⟨_, rfl⟩ hs
   | 32, ho =>
     cases ho
     refine wpOp_of rfl rfl ?_
     have f31 : ∃ z : Int, (aq.tmps.getD 85 undef) = .int .i64 z := z6 31 85 (hall { on := 31, ground := Ground.data } (by simp) rfl) rfl
     obtain ⟨z31q, f31⟩ := f31
     have hK := fun (v : Value) (W2 : World) hW hT hv (hs : Srn10 wA g ao n cap cs y3 y4 y5 y6 W2) => show (Jrn10 wA g ao n cap cs y3 y4 y5 y6 w0 a0) (lq.setIfInBounds 32 true) (aq.put (some 86) v) W2 from ⟨hJ2.put hS 32 86 rfl (by omega) (W' := W2) hW hT v hv, hs⟩
     clear ho hall hl hQ
     generalize (Jrn10 wA g ao n cap cs y3 y4 y5 y6 w0 a0) (lq.setIfInBounds 32 true) = K at hK ⊢
     clear hJ2 hS z1 z2 z3 z4 z6 z7
     go_simp
     exact hK _ _ z5 (fun _ _ h => h) ⟨_, rfl⟩ hs
   | 33, ho =>
     cases ho
     refine wpOp_of rfl rfl ?_
     have f28 : (aq.tmps.getD 82 undef) = .int .i64 y3 := z6 28 82 (hall { on := 28, ground := Ground.data } (by simp) rfl) rfl
     have f32 : ∃ z : Int, (aq.tmps.getD 86 undef) = .int .i64 z := z6 32 86 (hall { on := 32, ground := Ground.data } (by simp) rfl) rfl
     obtain ⟨z32q, f32⟩ := f32
     rw [Array.getD_eq_getD_getElem?] at f28
     rw [Array.getD_eq_getD_getElem?] at f32
     have hK := fun (v : Value) (W2 : World) hW hT hv (hs : Srn10 wA g ao n cap cs y3 y4 y5 y6 W2) => show (Jrn10 wA g ao n cap cs y3 y4 y5 y6 w0 a0) (lq.setIfInBounds 33 true) (aq.put (some 87) v) W2 from ⟨hJ2.put hS 33 87 rfl (by omega) (W' := W2) hW hT v hv, hs⟩
     clear ho hall hl hQ
     generalize (Jrn10 wA g ao n cap cs y3 y4 y5 y6 w0 a0) (lq.setIfInBounds 33 true) = K at hK ⊢
     clear hJ2 hS z1 z2 z3 z4 z6 z7
     go_simp
     exact hK _ _ z5 (fun _ _ h => h) ⟨_, _, rfl⟩ hs
   | 34, ho =>
     cases ho
     refine wpOp_of rfl rfl ?_
     have f2 : ∃ p q : Int, (aq.tmps.getD 56 undef) = .agg #[.int .i64 p, .int .i64 q] := z6 2 56 (hall { on := 2, ground := Ground.data } (by simp) rfl) rfl
     obtain ⟨p2q, r2q, f2⟩ := f2
     have f8 : ∃ p q : Int, (aq.tmps.getD 62 undef) = .agg #[.int .i64 p, .int .i64 q] := z6 8 62 (hall { on := 8, ground := Ground.data } (by simp) rfl) rfl
     obtain ⟨p8q, r8q, f8⟩ := f8
     have f15 : ∃ p q : Int, (aq.tmps.getD 69 undef) = .agg #[.int .i64 p, .int .i64 q] := z6 15 69 (hall { on := 15, ground := Ground.data } (by simp) rfl) rfl
     obtain ⟨p15q, r15q, f15⟩ := f15
     have f20 : ∃ p q : Int, (aq.tmps.getD 74 undef) = .agg #[.int .i64 p, .int .i64 q] := z6 20 74 (hall { on := 20, ground := Ground.data } (by simp) rfl) rfl
     obtain ⟨p20q, r20q, f20⟩ := f20
     have f27 : ∃ p q : Int, (aq.tmps.getD 81 undef) = .agg #[.int .i64 p, .int .i64 q] := z6 27 81 (hall { on := 27, ground := Ground.data } (by simp) rfl) rfl
     obtain ⟨p27q, r27q, f27⟩ := f27
     have f33 : ∃ p q : Int, (aq.tmps.getD 87 undef) = .agg #[.int .i64 p, .int .i64 q] := z6 33 87 (hall { on := 33, ground := Ground.data } (by simp) rfl) rfl
     obtain ⟨p33q, r33q, f33⟩ := f33
     rw [Array.getD_eq_getD_getElem?] at f2
     rw [Array.getD_eq_getD_getElem?] at f8
     rw [Array.getD_eq_getD_getElem?] at f15
     rw [Array.getD_eq_getD_getElem?] at f20
     rw [Array.getD_eq_getD_getElem?] at f27
     rw [Array.getD_eq_getD_getElem?] at f33
     have hK := fun (v : Value) (W2 : World) hW hT hv (hs : Srn10 wA g ao n cap cs y3 y4 y5 y6 W2) => show (Jrn10 wA g ao n cap cs y3 y4 y5 y6 w0 a0) (lq.setIfInBounds 34 true) (aq.put (some 88) v) W2 from ⟨hJ2.put hS 34 88 rfl (by omega) (W' := W2) hW hT v hv, hs⟩
     clear ho hall hl hQ
     generalize (Jrn10 wA g ao n cap cs y3 y4 y5 y6 w0 a0) (lq.setIfInBounds 34 true) = K at hK ⊢
     clear hJ2 hS z1 z2 z3 z4 z6 z7
     obtain ⟨sR, sK, sB⟩ := hs
     have sl := sB.lt
     have zs := z5.size
     go_simp
     exact hK _ _ (z5.alloc (by have := hgA; omega) _) (fun _ _ h => h.mono ((Below.refl _ _).alloc (Nat.le_refl _) _)) ⟨_, sp_made6 _ _ _ _ _ _ _ _ _ _ _ _ _ (by omega)⟩ ⟨sR.alloc _, sK.alloc _, sB.alloc _⟩
   | 35, ho =>
     cases ho
     refine wpOp_of rfl rfl ?_
     have f34 : ∃ L, SpRow W (wA.heap.size + 1) (aq.tmps.getD 88 undef) 6 L := z6 34 88 (hall { on := 34, ground := Ground.data } (by simp) rfl) rfl
     obtain ⟨Lq, Oq⟩ := f34
     have hK := fun (v : Value) (W2 : World) hW hT hv (hs : Srn10 wA g ao n cap cs y3 y4 y5 y6 W2) => show (Jrn10 wA g ao n cap cs y3 y4 y5 y6 w0 a0) (lq.setIfInBounds 35 true) (aq.put (some 7) v) W2 from ⟨hJ2.put hS 35 7 rfl (by omega) (W' := W2) hW hT v hv, hs⟩
     clear ho hall hl hQ
     generalize (Jrn10 wA g ao n cap cs y3 y4 y5 y6 w0 a0) (lq.setIfInBounds 35 true) = K at hK ⊢
     clear hJ2 hS z1 z2 z3 z4 z6 z7
     obtain ⟨aq2, cq2, eq2⟩ := ownG_slice Oq
     rw [eq2] at Oq
     rw [Array.getD_eq_getD_getElem?] at eq2
     go_simp
     exact hK _ _ z5 (fun _ _ h => h) ⟨Lq, Oq⟩ hs
   | iq + 36, ho => simp at ho
 · intro lq aq W ⟨hJ, hs⟩ hr
   obtain ⟨z1, z2, z3, z4, z5, z6, z7⟩ := hJ
   have hl := listed_of hr [0, 1, 2, 3, 4, 5, 6, 7, 8, 9, 10, 11, 12, 13, 14, 15, 16, 17, 18, 19, 20, 21, 22, 23, 24, 25, 26, 27, 28, 29, 30, 31, 32, 33, 34, 35] [] (by simp) (by kernel_rfl) (by rw [z1]; decide)
   exact hQ aq W z2 z3 (fun e he => z4 e (by simpa using he)) (z6 35 7 (hl 35 (by simp)) rfl) z5 hs
def Vrn12 (wA : World) (g : Nat) (_ao : Option Addr) (_n _cap : Nat) (_cs : List Int) (_B : Nat) : Nat → Value → World → Prop
 | 0, v, _ => v = .pointer (some ⟨g, 0, none⟩)
 | 1, v, _ => ∃ p q : Int, v = .agg #[.int .i64 p, .int .i64 q]
 | 2, v, _ => v = .pointer (some ⟨g, 0, none⟩)
 | 3, v, _ => ∃ p q : Int, v = .agg #[.int .i64 p, .int .i64 q]
 | 4, v, _ => v = .pointer (some ⟨g, 0, none⟩)
 | 5, v, _ => ∃ p q : Int, v = .agg #[.int .i64 p, .int .i64 q]
 | 6, v, _ => v = .pointer (some ⟨g, 0, none⟩)
 | 7, v, _ => ∃ p q : Int, v = .agg #[.int .i64 p, .int .i64 q]
 | 8, v, W => ∃ L, SpRow W (wA.heap.size + 1) v 4 L
 | 9, v, W => ∃ L, SpRow W (wA.heap.size + 1) v 4 L
 | _, _, _ => True
theorem Vrn12.mono {wA : World} {g : Nat} {ao : Option Addr} {n cap : Nat} {cs : List Int} {B j : Nat} {v : Value} {W W2 : World} (hB : Below W.heap.size W W2) (h : Vrn12 wA g ao n cap cs B j v W) : Vrn12 wA g ao n cap cs B j v W2 := by
 unfold Vrn12 at *
 split <;> simp only at h <;> first | exact h | (obtain ⟨L, O⟩ := h; exact ⟨L, ownG_step O hB⟩) | trivial
theorem Vrn12.kept {wA : World} {g : Nat} {ao : Option Addr} {n cap : Nat} {cs : List Int} {B j : Nat} {v : Value} {W W2 : World} (hgA : g < wA.heap.size) (h : Vrn12 wA g ao n cap cs B j v W) (K : Kept g W W2) : Vrn12 wA g ao n cap cs B j v W2 := by
 unfold Vrn12 at *
 split <;> simp only at h <;> first | exact h | (obtain ⟨L, O⟩ := h; exact ⟨L, ownG_kept O K (by omega)⟩) | trivial
def Srn12 (wA : World) (g : Nat) (ao : Option Addr) (n cap : Nat) (cs : List Int) (W : World) : Prop := Rdr W g ao n cap cs ∧ Kept g wA W ∧ Blk W wA.heap.size [.slice none 0 0]
def Jrn12 (wA : World) (g : Nat) (ao : Option Addr) (n cap : Nat) (cs : List Int) (w0 : World) (a0 : Act) (lz : Array Bool) (az : Act) (W : World) : Prop := InvQ (g) [some 91, some 92, some 93, some 94, some 95, some 96, some 97, some 98, some 99, some 7] (Vrn12 wA g ao n cap cs (g)) w0 a0 lz az W ∧ Srn12 wA g ao n cap cs W
set_option maxRecDepth 100000 in
set_option maxHeartbeats 4000000 in
theorem rn12 {Q : Exit → Act → World → Prop} {wA : World} {g : Nat} {ao : Option Addr} {n cap : Nat} {cs : List Int}  {w0 : World} {a0 : Act} {idq : Nat} {t0 t1 t2 t3 t4 t5 t6 t7 t8 t9 : TypeId} {q0 q1 q2 q3 q4 q5 q6 q7 q8 q9 : String}
   (hgA : g < wA.heap.size) (h0 : a0.tmps[0]? = some (.pointer (some ⟨g, 0, none⟩)))  (hz : a0.tmps.size = 195) (hs0 : Srn12 wA g ao n cap cs w0)
   (hQ : ∀ aq W, aq.tmps.size = a0.tmps.size → aq.defers = a0.defers → (∀ e, e ∉ ([91, 92, 93, 94, 95, 96, 97, 98, 99, 7] : List Nat) → aq.tmps[e]? = a0.tmps[e]?) → Vrn12 wA g ao n cap cs (g) 9 (aq.tmps.getD 7 undef) W → Below (g) w0 W → Srn12 wA g ao n cap cs W → Q .normal aq W) :
   (Code.region idq #[{ dst := some 91, op := Op.move (Operand.tmp 0), type := t0, pos := q0, after := #[], guard := none },
   { dst := some 92, op := Op.call { callee := Callee.value (Operand.func 78), args := #[Operand.tmp 91], argTypes := #[73] }, type := t1, pos := q1, after := #[{ on := 0, ground := Ground.data }], guard := none },
   { dst := some 93, op := Op.move (Operand.tmp 0), type := t2, pos := q2, after := #[], guard := none },
   { dst := some 94, op := Op.call { callee := Callee.value (Operand.func 78), args := #[Operand.tmp 93], argTypes := #[73] }, type := t3, pos := q3, after := #[{ on := 2, ground := Ground.data }, { on := 1, ground := Ground.chain }], guard := none },
   { dst := some 95, op := Op.move (Operand.tmp 0), type := t4, pos := q4, after := #[], guard := none },
   { dst := some 96, op := Op.call { callee := Callee.value (Operand.func 78), args := #[Operand.tmp 95], argTypes := #[73] }, type := t5, pos := q5, after := #[{ on := 4, ground := Ground.data }, { on := 3, ground := Ground.chain }], guard := none },
   { dst := some 97, op := Op.move (Operand.tmp 0), type := t6, pos := q6, after := #[], guard := none },
   { dst := some 98, op := Op.call { callee := Callee.value (Operand.func 78), args := #[Operand.tmp 97], argTypes := #[73] }, type := t7, pos := q7, after := #[{ on := 6, ground := Ground.data }, { on := 5, ground := Ground.chain }], guard := none },
   { dst := some 99, op := Op.buildSlice 55 4 #[(0, Operand.tmp 92), (1, Operand.tmp 94), (2, Operand.tmp 96), (3, Operand.tmp 98)], type := t8, pos := q8, after := #[{ on := 1, ground := Ground.data }, { on := 3, ground := Ground.data }, { on := 5, ground := Ground.data }, { on := 7, ground := Ground.data }], guard := none },
   { dst := some 7, op := Op.assign (Operand.tmp 99), type := t9, pos := q9, after := #[{ on := 8, ground := Ground.data }, { on := 7, ground := Ground.chain }, { on := 0, ground := Ground.phase }, { on := 1, ground := Ground.phase }, { on := 2, ground := Ground.phase }, { on := 3, ground := Ground.phase }, { on := 4, ground := Ground.phase }, { on := 5, ground := Ground.phase }, { on := 6, ground := Ground.phase }, { on := 7, ground := Ground.phase }, { on := 8, ground := Ground.phase }], guard := none }] false).wp Tryz.prog Q a0 w0 := by
 have hS : distS [some 91, some 92, some 93, some 94, some 95, some 96, some 97, some 98, some 99, some 7] = true := rfl
 refine wp_region_invp (Jrn12 wA g ao n cap cs w0 a0) (by kernel_rfl) ⟨⟨rfl, rfl, rfl, fun _ _ => rfl, Below.refl _ w0, fun j d hj => ?_, fun j hj => ?_⟩, hs0⟩ ?_ ?_
 · exfalso
   rw [Array.getD_eq_getD_getElem?, Array.getElem?_replicate] at hj
   split at hj <;> simp at hj
 · exfalso
   rw [Array.getD_eq_getD_getElem?, Array.getElem?_replicate] at hj
   split at hj <;> simp at hj
 · intro lq aq W iq oq ⟨hJ, hs⟩ hl ho hall
   have hJ2 := hJ
   obtain ⟨z1, z2, z3, z4, z5, z6, z7⟩ := hJ
   have g0 : aq.tmps.getD 0 undef = .pointer (some ⟨g, 0, none⟩) := by rw [Array.getD_eq_getD_getElem?, z4 0 (by decide), h0]; rfl
   match iq, ho with
   | 0, ho =>
     cases ho
     refine wpOp_of rfl rfl ?_
     have hK := fun (v : Value) (W2 : World) hW hT hv (hs : Srn12 wA g ao n cap cs W2) => show (Jrn12 wA g ao n cap cs w0 a0) (lq.setIfInBounds 0 true) (aq.put (some 91) v) W2 from ⟨hJ2.put hS 0 91 rfl (by omega) (W' := W2) hW hT v hv, hs⟩
     clear ho hall hl hQ
     generalize (Jrn12 wA g ao n cap cs w0 a0) (lq.setIfInBounds 0 true) = K at hK ⊢
     clear hJ2 hS z1 z2 z3 z4 z6 z7
     go_simp
     exact hK _ _ z5 (fun _ _ h => h) rfl hs
   | 1, ho =>
     cases ho
     refine wpOp_of rfl rfl ?_
     have f0 : (aq.tmps.getD 91 undef) = .pointer (some ⟨g, 0, none⟩) := z6 0 91 (hall { on := 0, ground := Ground.data } (by simp) rfl) rfl
     have hK := fun (v : Value) (W2 : World) hW hT hv (hs : Srn12 wA g ao n cap cs W2) => show (Jrn12 wA g ao n cap cs w0 a0) (lq.setIfInBounds 1 true) (aq.put (some 92) v) W2 from ⟨hJ2.put hS 1 92 rfl (by omega) (W' := W2) hW hT v hv, hs⟩
     clear ho hall hl hQ
     generalize (Jrn12 wA g ao n cap cs w0 a0) (lq.setIfInBounds 1 true) = K at hK ⊢
     clear hJ2 hS z1 z2 z3 z4 z6 z7
     obtain ⟨sR, sK, sB⟩ := hs
     go_simp
     refine (spot_any g ao n cap cs W sR).mono ?_
     rintro e v1 ⟨_, rfl, ⟨p, q, rfl, _, _, _, _⟩, R1, K1⟩
     exact hK _ _ (z5.trans (kept_below sR.lt K1)) (fun _ _ h => Vrn12.kept hgA h K1) ⟨p, q, rfl⟩ ⟨R1, sK.trans K1, sB.kept K1 (by omega)⟩
   | 2, ho =>
     cases ho
     refine wpOp_of rfl rfl ?_
     have hK := fun (v : Value) (W2 : World) hW hT hv (hs : Srn12 wA g ao n cap cs W2) => show (Jrn12 wA g ao n cap cs w0 a0) (lq.setIfInBounds 2 true) (aq.put (some 93) v) W2 from ⟨hJ2.put hS 2 93 rfl (by omega) (W' := W2) hW hT v hv, hs⟩
     clear ho hall hl hQ
     generalize (Jrn12 wA g ao n cap cs w0 a0) (lq.setIfInBounds 2 true) = K at hK ⊢
     clear hJ2 hS z1 z2 z3 z4 z6 z7
     go_simp
     exact hK _ _ z5 (fun _ _ h => h) rfl hs
   | 3, ho =>
     cases ho
     refine wpOp_of rfl rfl ?_
     have f2 : (aq.tmps.getD 93 undef) = .pointer (some ⟨g, 0, none⟩) := z6 2 93 (hall { on := 2, ground := Ground.data } (by simp) rfl) rfl
     have hK := fun (v : Value) (W2 : World) hW hT hv (hs : Srn12 wA g ao n cap cs W2) => show (Jrn12 wA g ao n cap cs w0 a0) (lq.setIfInBounds 3 true) (aq.put (some 94) v) W2 from ⟨hJ2.put hS 3 94 rfl (by omega) (W' := W2) hW hT v hv, hs⟩
     clear ho hall hl hQ
     generalize (Jrn12 wA g ao n cap cs w0 a0) (lq.setIfInBounds 3 true) = K at hK ⊢
     clear hJ2 hS z1 z2 z3 z4 z6 z7
     obtain ⟨sR, sK, sB⟩ := hs
     go_simp
     refine (spot_any g ao n cap cs W sR).mono ?_
     rintro e v1 ⟨_, rfl, ⟨p, q, rfl, _, _, _, _⟩, R1, K1⟩
     exact hK _ _ (z5.trans (kept_below sR.lt K1)) (fun _ _ h => Vrn12.kept hgA h K1) ⟨p, q, rfl⟩ ⟨R1, sK.trans K1, sB.kept K1 (by omega)⟩
   | 4, ho =>
     cases ho
     refine wpOp_of rfl rfl ?_
     have hK := fun (v : Value) (W2 : World) hW hT hv (hs : Srn12 wA g ao n cap cs W2) => show (Jrn12 wA g ao n cap cs w0 a0) (lq.setIfInBounds 4 true) (aq.put (some 95) v) W2 from ⟨hJ2.put hS 4 95 rfl (by omega) (W' := W2) hW hT v hv, hs⟩
     clear ho hall hl hQ
     generalize (Jrn12 wA g ao n cap cs w0 a0) (lq.setIfInBounds 4 true) = K at hK ⊢
     clear hJ2 hS z1 z2 z3 z4 z6 z7
     go_simp
     exact hK _ _ z5 (fun _ _ h => h) rfl hs
   | 5, ho =>
     cases ho
     refine wpOp_of rfl rfl ?_
     have f4 : (aq.tmps.getD 95 undef) = .pointer (some ⟨g, 0, none⟩) := z6 4 95 (hall { on := 4, ground := Ground.data } (by simp) rfl) rfl
     have hK := fun (v : Value) (W2 : World) hW hT hv (hs : Srn12 wA g ao n cap cs W2) => show (Jrn12 wA g ao n cap cs w0 a0) (lq.setIfInBounds 5 true) (aq.put (some 96) v) W2 from ⟨hJ2.put hS 5 96 rfl (by omega) (W' := W2) hW hT v hv, hs⟩
     clear ho hall hl hQ
     generalize (Jrn12 wA g ao n cap cs w0 a0) (lq.setIfInBounds 5 true) = K at hK ⊢
     clear hJ2 hS z1 z2 z3 z4 z6 z7
     obtain ⟨sR, sK, sB⟩ := hs
     go_simp
     refine (spot_any g ao n cap cs W sR).mono ?_
     rintro e v1 ⟨_, rfl, ⟨p, q, rfl, _, _, _, _⟩, R1, K1⟩
     exact hK _ _ (z5.trans (kept_below sR.lt K1)) (fun _ _ h => Vrn12.kept hgA h K1) ⟨p, q, rfl⟩ ⟨R1, sK.trans K1, sB.kept K1 (by omega)⟩
   | 6, ho =>
     cases ho
     refine wpOp_of rfl rfl ?_
     have hK := fun (v : Value) (W2 : World) hW hT hv (hs : Srn12 wA g ao n cap cs W2) => show (Jrn12 wA g ao n cap cs w0 a0) (lq.setIfInBounds 6 true) (aq.put (some 97) v) W2 from ⟨hJ2.put hS 6 97 rfl (by omega) (W' := W2) hW hT v hv, hs⟩
     clear ho hall hl hQ
     generalize (Jrn12 wA g ao n cap cs w0 a0) (lq.setIfInBounds 6 true) = K at hK ⊢
     clear hJ2 hS z1 z2 z3 z4 z6 z7
     go_simp
     exact hK _ _ z5 (fun _ _ h => h) rfl hs
   | 7, ho =>
     cases ho
     refine wpOp_of rfl rfl ?_
     have f6 : (aq.tmps.getD 97 undef) = .pointer (some ⟨g, 0, none⟩) := z6 6 97 (hall { on := 6, ground := Ground.data } (by simp) rfl) rfl
     have hK := fun (v : Value) (W2 : World) hW hT hv (hs : Srn12 wA g ao n cap cs W2) => show (Jrn12 wA g ao n cap cs w0 a0) (lq.setIfInBounds 7 true) (aq.put (some 98) v) W2 from ⟨hJ2.put hS 7 98 rfl (by omega) (W' := W2) hW hT v hv, hs⟩
     clear ho hall hl hQ
     generalize (Jrn12 wA g ao n cap cs w0 a0) (lq.setIfInBounds 7 true) = K at hK ⊢
     clear hJ2 hS z1 z2 z3 z4 z6 z7
     obtain ⟨sR, sK, sB⟩ := hs
     go_simp
     refine (spot_any g ao n cap cs W sR).mono ?_
     rintro e v1 ⟨_, rfl, ⟨p, q, rfl, _, _, _, _⟩, R1, K1⟩
     exact hK _ _ (z5.trans (kept_below sR.lt K1)) (fun _ _ h => Vrn12.kept hgA h K1) ⟨p, q, rfl⟩ ⟨R1, sK.trans K1, sB.kept K1 (by omega)⟩
   | 8, ho =>
     cases ho
     refine wpOp_of rfl rfl ?_
     have f1 : ∃ p q : Int, (aq.tmps.getD 92 undef) = .agg #[.int .i64 p, .int .i64 q] := z6 1 92 (hall { on := 1, ground := Ground.data } (by simp) rfl) rfl
     obtain ⟨p1q, r1q, f1⟩ := f1
     have f3 : ∃ p q : Int, (aq.tmps.getD 94 undef) = .agg #[.int .i64 p, .int .i64 q] := z6 3 94 (hall { on := 3, ground := Ground.data } (by simp) rfl) rfl
     obtain ⟨p3q, r3q, f3⟩ := f3
     have f5 : ∃ p q : Int, (aq.tmps.getD 96 undef) = .agg #[.int .i64 p, .int .i64 q] := z6 5 96 (hall { on := 5, ground := Ground.data } (by simp) rfl) rfl
     obtain ⟨p5q, r5q, f5⟩ := f5
     have f7 : ∃ p q : Int, (aq.tmps.getD 98 undef) = .agg #[.int .i64 p, .int .i64 q] := z6 7 98 (hall { on := 7, ground := Ground.data } (by simp) rfl) rfl
     obtain ⟨p7q, r7q, f7⟩ := f7
     rw [Array.getD_eq_getD_getElem?] at f1
     rw [Array.getD_eq_getD_getElem?] at f3
     rw [Array.getD_eq_getD_getElem?] at f5
     rw [Array.getD_eq_getD_getElem?] at f7
     have hK := fun (v : Value) (W2 : World) hW hT hv (hs : Srn12 wA g ao n cap cs W2) => show (Jrn12 wA g ao n cap cs w0 a0) (lq.setIfInBounds 8 true) (aq.put (some 99) v) W2 from ⟨hJ2.put hS 8 99 rfl (by omega) (W' := W2) hW hT v hv, hs⟩
     clear ho hall hl hQ
     generalize (Jrn12 wA g ao n cap cs w0 a0) (lq.setIfInBounds 8 true) = K at hK ⊢
     clear hJ2 hS z1 z2 z3 z4 z6 z7
     obtain ⟨sR, sK, sB⟩ := hs
     have sl := sB.lt
     have zs := z5.size
     go_simp
     exact hK _ _ (z5.alloc (by have := hgA; omega) _) (fun _ _ h => h.mono ((Below.refl _ _).alloc (Nat.le_refl _) _)) ⟨_, sp_made4 _ _ _ _ _ _ _ _ _ (by omega)⟩ ⟨sR.alloc _, sK.alloc _, sB.alloc _⟩
   | 9, ho =>
     cases ho
     refine wpOp_of rfl rfl ?_
     have f8 : ∃ L, SpRow W (wA.heap.size + 1) (aq.tmps.getD 99 undef) 4 L := z6 8 99 (hall { on := 8, ground := Ground.data } (by simp) rfl) rfl
     obtain ⟨Lq, Oq⟩ := f8
     have hK := fun (v : Value) (W2 : World) hW hT hv (hs : Srn12 wA g ao n cap cs W2) => show (Jrn12 wA g ao n cap cs w0 a0) (lq.setIfInBounds 9 true) (aq.put (some 7) v) W2 from ⟨hJ2.put hS 9 7 rfl (by omega) (W' := W2) hW hT v hv, hs⟩
     clear ho hall hl hQ
     generalize (Jrn12 wA g ao n cap cs w0 a0) (lq.setIfInBounds 9 true) = K at hK ⊢
     clear hJ2 hS z1 z2 z3 z4 z6 z7
     obtain ⟨aq2, cq2, eq2⟩ := ownG_slice Oq
     rw [eq2] at Oq
     rw [Array.getD_eq_getD_getElem?] at eq2
     go_simp
     exact hK _ _ z5 (fun _ _ h => h) ⟨Lq, Oq⟩ hs
   | iq + 10, ho => simp at ho
 · intro lq aq W ⟨hJ, hs⟩ hr
   obtain ⟨z1, z2, z3, z4, z5, z6, z7⟩ := hJ
   have hl := listed_of hr [0, 1, 2, 3, 4, 5, 6, 7, 8, 9] [] (by simp) (by kernel_rfl) (by rw [z1]; decide)
   exact hQ aq W z2 z3 (fun e he => z4 e (by simpa using he)) (z6 9 7 (hl 9 (by simp)) rfl) z5 hs
def Vrn14 (wA : World) (g : Nat) (_ao : Option Addr) (_n _cap : Nat) (_cs : List Int) (y3 y4 y5 y6 : Int) (_B : Nat) : Nat → Value → World → Prop
 | 0, v, _ => v = .int .i64 y3
 | 1, v, _ => v = .int .i64 y4
 | 2, v, _ => ∃ p q : Int, v = .agg #[.int .i64 p, .int .i64 q]
 | 3, v, _ => v = .int .i64 y3
 | 4, v, _ => v = .int .i64 y5
 | 5, v, _ => ∃ z : Int, v = .int .i64 z
 | 6, v, _ => v = .int .i64 y4
 | 7, v, _ => ∃ p q : Int, v = .agg #[.int .i64 p, .int .i64 q]
 | 8, v, _ => v = .int .i64 y3
 | 9, v, _ => v = .pointer (some ⟨g, 0, none⟩)
 | 10, v, _ => ∃ z : Int, v = .int .i64 z
 | 11, v, _ => ∃ z : Int, v = .int .i64 z
 | 12, v, _ => v = .int .i64 y4
 | 13, v, _ => v = .int .i64 y6
 | 14, v, _ => ∃ z : Int, v = .int .i64 z
 | 15, v, _ => ∃ p q : Int, v = .agg #[.int .i64 p, .int .i64 q]
 | 16, v, W => ∃ L, SpRow W (wA.heap.size + 1) v 3 L
 | 17, v, W => ∃ L, SpRow W (wA.heap.size + 1) v 3 L
 | _, _, _ => True
theorem Vrn14.mono {wA : World} {g : Nat} {ao : Option Addr} {n cap : Nat} {cs : List Int} {y3 y4 y5 y6 : Int} {B j : Nat} {v : Value} {W W2 : World} (hB : Below W.heap.size W W2) (h : Vrn14 wA g ao n cap cs y3 y4 y5 y6 B j v W) : Vrn14 wA g ao n cap cs y3 y4 y5 y6 B j v W2 := by
 unfold Vrn14 at *
 split <;> simp only at h <;> first | exact h | (obtain ⟨L, O⟩ := h; exact ⟨L, ownG_step O hB⟩) | trivial
theorem Vrn14.kept {wA : World} {g : Nat} {ao : Option Addr} {n cap : Nat} {cs : List Int} {y3 y4 y5 y6 : Int} {B j : Nat} {v : Value} {W W2 : World} (hgA : g < wA.heap.size) (h : Vrn14 wA g ao n cap cs y3 y4 y5 y6 B j v W) (K : Kept g W W2) : Vrn14 wA g ao n cap cs y3 y4 y5 y6 B j v W2 := by
 unfold Vrn14 at *
 split <;> simp only at h <;> first | exact h | (obtain ⟨L, O⟩ := h; exact ⟨L, ownG_kept O K (by omega)⟩) | trivial
def Srn14 (wA : World) (g : Nat) (ao : Option Addr) (n cap : Nat) (cs : List Int) (_y3 _y4 _y5 _y6 : Int) (W : World) : Prop := Rdr W g ao n cap cs ∧ Kept g wA W ∧ Blk W wA.heap.size [.slice none 0 0]
def Jrn14 (wA : World) (g : Nat) (ao : Option Addr) (n cap : Nat) (cs : List Int) (y3 y4 y5 y6 : Int) (w0 : World) (a0 : Act) (lz : Array Bool) (az : Act) (W : World) : Prop := InvQ (g) [some 102, some 103, some 104, some 105, some 106, some 107, some 108, some 109, some 110, some 111, some 112, some 113, some 114, some 115, some 116, some 117, some 118, some 7] (Vrn14 wA g ao n cap cs y3 y4 y5 y6 (g)) w0 a0 lz az W ∧ Srn14 wA g ao n cap cs y3 y4 y5 y6 W
set_option maxRecDepth 100000 in
set_option maxHeartbeats 4000000 in
theorem rn14 {Q : Exit → Act → World → Prop} {wA : World} {g : Nat} {ao : Option Addr} {n cap : Nat} {cs : List Int} {y3 y4 y5 y6 : Int}  {w0 : World} {a0 : Act} {idq : Nat} {t0 t1 t2 t3 t4 t5 t6 t7 t8 t9 t10 t11 t12 t13 t14 t15 t16 t17 : TypeId} {q0 q1 q2 q3 q4 q5 q6 q7 q8 q9 q10 q11 q12 q13 q14 q15 q16 q17 : String}
   (hgA : g < wA.heap.size) (h0 : a0.tmps[0]? = some (.pointer (some ⟨g, 0, none⟩))) (h3 : a0.tmps[3]? = some (.int .i64 y3)) (h4 : a0.tmps[4]? = some (.int .i64 y4)) (h5 : a0.tmps[5]? = some (.int .i64 y5)) (h6 : a0.tmps[6]? = some (.int .i64 y6))  (hz : a0.tmps.size = 195) (hs0 : Srn14 wA g ao n cap cs y3 y4 y5 y6 w0)
   (hQ : ∀ aq W, aq.tmps.size = a0.tmps.size → aq.defers = a0.defers → (∀ e, e ∉ ([102, 103, 104, 105, 106, 107, 108, 109, 110, 111, 112, 113, 114, 115, 116, 117, 118, 7] : List Nat) → aq.tmps[e]? = a0.tmps[e]?) → Vrn14 wA g ao n cap cs y3 y4 y5 y6 (g) 17 (aq.tmps.getD 7 undef) W → Below (g) w0 W → Srn14 wA g ao n cap cs y3 y4 y5 y6 W → Q .normal aq W) :
   (Code.region idq #[{ dst := some 102, op := Op.move (Operand.tmp 3), type := t0, pos := q0, after := #[], guard := none },
   { dst := some 103, op := Op.move (Operand.tmp 4), type := t1, pos := q1, after := #[], guard := none },
   { dst := some 104, op := Op.build 51 #[(0, Operand.tmp 102), (1, Operand.tmp 103)], type := t2, pos := q2, after := #[{ on := 0, ground := Ground.data }, { on := 1, ground := Ground.data }], guard := none },
   { dst := some 105, op := Op.move (Operand.tmp 3), type := t3, pos := q3, after := #[], guard := none },
   { dst := some 106, op := Op.move (Operand.tmp 5), type := t4, pos := q4, after := #[], guard := none },
   { dst := some 107, op := Op.binOp BinOp.add 2 (Operand.tmp 105) (Operand.tmp 106) 2, type := t5, pos := q5, after := #[{ on := 3, ground := Ground.data }, { on := 4, ground := Ground.data }], guard := none },
   { dst := some 108, op := Op.move (Operand.tmp 4), type := t6, pos := q6, after := #[], guard := none },
   { dst := some 109, op := Op.build 51 #[(0, Operand.tmp 107), (1, Operand.tmp 108)], type := t7, pos := q7, after := #[{ on := 5, ground := Ground.data }, { on := 6, ground := Ground.data }], guard := none },
   { dst := some 110, op := Op.move (Operand.tmp 3), type := t8, pos := q8, after := #[], guard := none },
   { dst := some 111, op := Op.move (Operand.tmp 0), type := t9, pos := q9, after := #[], guard := none },
   { dst := some 112, op := Op.call { callee := Callee.value (Operand.func 77), args := #[Operand.tmp 111, Operand.const (Value.int IntKind.i64 (-2)), Operand.const (Value.int IntKind.i64 8)], argTypes := #[73, 2, 2] }, type := t10, pos := q10, after := #[{ on := 9, ground := Ground.data }], guard := none },
   { dst := some 113, op := Op.binOp BinOp.add 2 (Operand.tmp 110) (Operand.tmp 112) 2, type := t11, pos := q11, after := #[{ on := 8, ground := Ground.data }, { on := 10, ground := Ground.data }], guard := none },
   { dst := some 114, op := Op.move (Operand.tmp 4), type := t12, pos := q12, after := #[], guard := none },
   { dst := some 115, op := Op.move (Operand.tmp 6), type := t13, pos := q13, after := #[], guard := none },
   { dst := some 116, op := Op.binOp BinOp.add 2 (Operand.tmp 114) (Operand.tmp 115) 2, type := t14, pos := q14, after := #[{ on := 12, ground := Ground.data }, { on := 13, ground := Ground.data }], guard := none },
   { dst := some 117, op := Op.build 51 #[(0, Operand.tmp 113), (1, Operand.tmp 116)], type := t15, pos := q15, after := #[{ on := 11, ground := Ground.data }, { on := 14, ground := Ground.data }], guard := none },
   { dst := some 118, op := Op.buildSlice 55 3 #[(0, Operand.tmp 104), (1, Operand.tmp 109), (2, Operand.tmp 117)], type := t16, pos := q16, after := #[{ on := 2, ground := Ground.data }, { on := 7, ground := Ground.data }, { on := 15, ground := Ground.data }], guard := none },
   { dst := some 7, op := Op.assign (Operand.tmp 118), type := t17, pos := q17, after := #[{ on := 16, ground := Ground.data }, { on := 10, ground := Ground.chain }, { on := 0, ground := Ground.phase }, { on := 1, ground := Ground.phase }, { on := 2, ground := Ground.phase }, { on := 3, ground := Ground.phase }, { on := 4, ground := Ground.phase }, { on := 5, ground := Ground.phase }, { on := 6, ground := Ground.phase }, { on := 7, ground := Ground.phase }, { on := 8, ground := Ground.phase }, { on := 9, ground := Ground.phase }, { on := 10, ground := Ground.phase }, { on := 11, ground := Ground.phase }, { on := 12, ground := Ground.phase }, { on := 13, ground := Ground.phase }, { on := 14, ground := Ground.phase }, { on := 15, ground := Ground.phase }, { on := 16, ground := Ground.phase }], guard := none }] false).wp Tryz.prog Q a0 w0 := by
 have hS : distS [some 102, some 103, some 104, some 105, some 106, some 107, some 108, some 109, some 110, some 111, some 112, some 113, some 114, some 115, some 116, some 117, some 118, some 7] = true := rfl
 refine wp_region_invp (Jrn14 wA g ao n cap cs y3 y4 y5 y6 w0 a0) (by kernel_rfl) ⟨⟨rfl, rfl, rfl, fun _ _ => rfl, Below.refl _ w0, fun j d hj => ?_, fun j hj => ?_⟩, hs0⟩ ?_ ?_
 · exfalso
   rw [Array.getD_eq_getD_getElem?, Array.getElem?_replicate] at hj
   split at hj <;> simp at hj
 · exfalso
   rw [Array.getD_eq_getD_getElem?, Array.getElem?_replicate] at hj
   split at hj <;> simp at hj
 · intro lq aq W iq oq ⟨hJ, hs⟩ hl ho hall
   have hJ2 := hJ
   obtain ⟨z1, z2, z3, z4, z5, z6, z7⟩ := hJ
   have g0 : aq.tmps.getD 0 undef = .pointer (some ⟨g, 0, none⟩) := by rw [Array.getD_eq_getD_getElem?, z4 0 (by decide), h0]; rfl
   have g3 : aq.tmps.getD 3 undef = .int .i64 y3 := by rw [Array.getD_eq_getD_getElem?, z4 3 (by decide), h3]; rfl
   have g4 : aq.tmps.getD 4 undef = .int .i64 y4 := by rw [Array.getD_eq_getD_getElem?, z4 4 (by decide), h4]; rfl
   have g5 : aq.tmps.getD 5 undef = .int .i64 y5 := by rw [Array.getD_eq_getD_getElem?, z4 5 (by decide), h5]; rfl
   have g6 : aq.tmps.getD 6 undef = .int .i64 y6 := by rw [Array.getD_eq_getD_getElem?, z4 6 (by decide), h6]; rfl
   match iq, ho with
   | 0, ho =>
     cases ho
     refine wpOp_of rfl rfl ?_
     have hK := fun (v : Value) (W2 : World) hW hT hv (hs : Srn14 wA g ao n cap cs y3 y4 y5 y6 W2) => show (Jrn14 wA g ao n cap cs y3 y4 y5 y6 w0 a0) (lq.setIfInBounds 0 true) (aq.put (some 102) v) W2 from ⟨hJ2.put hS 0 102 rfl (by omega) (W' := W2) hW hT v hv, hs⟩
     clear ho hall hl hQ
     generalize (Jrn14 wA g ao n cap cs y3 y4 y5 y6 w0 a0) (lq.setIfInBounds 0 true) = K at hK ⊢
     clear hJ2 hS z1 z2 z3 z4 z6 z7
     go_simp
     exact hK _ _ z5 (fun _ _ h => h) rfl hs
   | 1, ho =>
     cases ho
     refine wpOp_of rfl rfl ?_
     have hK := fun (v : Value) (W2 : World) hW hT hv (hs : Srn14 wA g ao n cap cs y3 y4 y5 y6 W2) => show (Jrn14 wA g ao n cap cs y3 y4 y5 y6 w0 a0) (lq.setIfInBounds 1 true) (aq.put (some 103) v) W2 from ⟨hJ2.put hS 1 103 rfl (by omega) (W' := W2) hW hT v hv, hs⟩
     clear ho hall hl hQ
     generalize (Jrn14 wA g ao n cap cs y3 y4 y5 y6 w0 a0) (lq.setIfInBounds 1 true) = K at hK ⊢
     clear hJ2 hS z1 z2 z3 z4 z6 z7
     go_simp
     exact hK _ _ z5 (fun _ _ h => h) rfl hs
   | 2, ho =>
     cases ho
     refine wpOp_of rfl rfl ?_
     have f0 : (aq.tmps.getD 102 undef) = .int .i64 y3 := z6 0 102 (hall { on := 0, ground := Ground.data } (by simp) rfl) rfl
     have f1 : (aq.tmps.getD 103 undef) = .int .i64 y4 := z6 1 103 (hall { on := 1, ground := Ground.data } (by simp) rfl) rfl
     rw [Array.getD_eq_getD_getElem?] at f0
     rw [Array.getD_eq_getD_getElem?] at f1
     have hK := fun (v : Value) (W2 : World) hW hT hv (hs : Srn14 wA g ao n cap cs y3 y4 y5 y6 W2) => show (Jrn14 wA g ao n cap cs y3 y4 y5 y6 w0 a0) (lq.setIfInBounds 2 true) (aq.put (some 104) v) W2 from ⟨hJ2.put hS 2 104 rfl (by omega) (W' := W2) hW hT v hv, hs⟩
     clear ho hall hl hQ
     generalize (Jrn14 wA g ao n cap cs y3 y4 y5 y6 w0 a0) (lq.setIfInBounds 2 true) = K at hK ⊢
     clear hJ2 hS z1 z2 z3 z4 z6 z7
     go_simp
     exact hK _ _ z5 (fun _ _ h => h) ⟨_, _, rfl⟩ hs
   | 3, ho =>
     cases ho
     refine wpOp_of rfl rfl ?_
     have hK := fun (v : Value) (W2 : World) hW hT hv (hs : Srn14 wA g ao n cap cs y3 y4 y5 y6 W2) => show (Jrn14 wA g ao n cap cs y3 y4 y5 y6 w0 a0) (lq.setIfInBounds 3 true) (aq.put (some 105) v) W2 from ⟨hJ2.put hS 3 105 rfl (by omega) (W' := W2) hW hT v hv, hs⟩
     clear ho hall hl hQ
     generalize (Jrn14 wA g ao n cap cs y3 y4 y5 y6 w0 a0) (lq.setIfInBounds 3 true) = K at hK ⊢
     clear hJ2 hS z1 z2 z3 z4 z6 z7
     go_simp
     exact hK _ _ z5 (fun _ _ h => h) rfl hs
   | 4, ho =>
     cases ho
     refine wpOp_of rfl rfl ?_
     have hK := fun (v : Value) (W2 : World) hW hT hv (hs : Srn14 wA g ao n cap cs y3 y4 y5 y6 W2) => show (Jrn14 wA g ao n cap cs y3 y4 y5 y6 w0 a0) (lq.setIfInBounds 4 true) (aq.put (some 106) v) W2 from ⟨hJ2.put hS 4 106 rfl (by omega) (W' := W2) hW hT v hv, hs⟩
     clear ho hall hl hQ
     generalize (Jrn14 wA g ao n cap cs y3 y4 y5 y6 w0 a0) (lq.setIfInBounds 4 true) = K at hK ⊢
     clear hJ2 hS z1 z2 z3 z4 z6 z7
     go_simp
     exact hK _ _ z5 (fun _ _ h => h) rfl hs
   | 5, ho =>
     cases ho
     refine wpOp_of rfl rfl ?_
     have f3 : (aq.tmps.getD 105 undef) = .int .i64 y3 := z6 3 105 (hall { on := 3, ground := Ground.data } (by simp) rfl) rfl
     have f4 : (aq.tmps.getD 106 undef) = .int .i64 y5 := z6 4 106 (hall { on := 4, ground := Ground.data } (by simp) rfl) rfl
     have hK := fun (v : Value) (W2 : World) hW hT hv (hs : Srn14 wA g ao n cap cs y3 y4 y5 y6 W2) => show (Jrn14 wA g ao n cap cs y3 y4 y5 y6 w0 a0) (lq.setIfInBounds 5 true) (aq.put (some 107) v) W2 from ⟨hJ2.put hS 5 107 rfl (by omega) (W' := W2) hW hT v hv, hs⟩
     clear ho hall hl hQ
     generalize (Jrn14 wA g ao n cap cs y3 y4 y5 y6 w0 a0) (lq.setIfInBounds 5 true) = K at hK ⊢
     clear hJ2 hS z1 z2 z3 z4 z6 z7
     go_simp
     exact hK _ _ z5 (fun _ _ h => h) ⟨_, rfl⟩ hs
   | 6, ho =>
     cases ho
     refine wpOp_of rfl rfl ?_
     have hK := fun (v : Value) (W2 : World) hW hT hv (hs : Srn14 wA g ao n cap cs y3 y4 y5 y6 W2) => show (Jrn14 wA g ao n cap cs y3 y4 y5 y6 w0 a0) (lq.setIfInBounds 6 true) (aq.put (some 108) v) W2 from ⟨hJ2.put hS 6 108 rfl (by omega) (W' := W2) hW hT v hv, hs⟩
     clear ho hall hl hQ
     generalize (Jrn14 wA g ao n cap cs y3 y4 y5 y6 w0 a0) (lq.setIfInBounds 6 true) = K at hK ⊢
     clear hJ2 hS z1 z2 z3 z4 z6 z7
     go_simp
     exact hK _ _ z5 (fun _ _ h => h) rfl hs
   | 7, ho =>
     cases ho
     refine wpOp_of rfl rfl ?_
     have f5 : ∃ z : Int, (aq.tmps.getD 107 undef) = .int .i64 z := z6 5 107 (hall { on := 5, ground := Ground.data } (by simp) rfl) rfl
     obtain ⟨z5q, f5⟩ := f5
     have f6 : (aq.tmps.getD 108 undef) = .int .i64 y4 := z6 6 108 (hall { on := 6, ground := Ground.data } (by simp) rfl) rfl
     rw [Array.getD_eq_getD_getElem?] at f5
     rw [Array.getD_eq_getD_getElem?] at f6
     have hK := fun (v : Value) (W2 : World) hW hT hv (hs : Srn14 wA g ao n cap cs y3 y4 y5 y6 W2) => show (Jrn14 wA g ao n cap cs y3 y4 y5 y6 w0 a0) (lq.setIfInBounds 7 true) (aq.put (some 109) v) W2 from ⟨hJ2.put hS 7 109 rfl (by omega) (W' := W2) hW hT v hv, hs⟩
     clear ho hall hl hQ
     generalize (Jrn14 wA g ao n cap cs y3 y4 y5 y6 w0 a0) (lq.setIfInBounds 7 true) = K at hK ⊢
     clear hJ2 hS z1 z2 z3 z4 z6 z7
     go_simp
     exact hK _ _ z5 (fun _ _ h => h) ⟨_, _, rfl⟩ hs
   | 8, ho =>
     cases ho
     refine wpOp_of rfl rfl ?_
     have hK := fun (v : Value) (W2 : World) hW hT hv (hs : Srn14 wA g ao n cap cs y3 y4 y5 y6 W2) => show (Jrn14 wA g ao n cap cs y3 y4 y5 y6 w0 a0) (lq.setIfInBounds 8 true) (aq.put (some 110) v) W2 from ⟨hJ2.put hS 8 110 rfl (by omega) (W' := W2) hW hT v hv, hs⟩
     clear ho hall hl hQ
     generalize (Jrn14 wA g ao n cap cs y3 y4 y5 y6 w0 a0) (lq.setIfInBounds 8 true) = K at hK ⊢
     clear hJ2 hS z1 z2 z3 z4 z6 z7
     go_simp
     exact hK _ _ z5 (fun _ _ h => h) rfl hs
   | 9, ho =>
     cases ho
     refine wpOp_of rfl rfl ?_
     have hK := fun (v : Value) (W2 : World) hW hT hv (hs : Srn14 wA g ao n cap cs y3 y4 y5 y6 W2) => show (Jrn14 wA g ao n cap cs y3 y4 y5 y6 w0 a0) (lq.setIfInBounds 9 true) (aq.put (some 111) v) W2 from ⟨hJ2.put hS 9 111 rfl (by omega) (W' := W2) hW hT v hv, hs⟩
     clear ho hall hl hQ
     generalize (Jrn14 wA g ao n cap cs y3 y4 y5 y6 w0 a0) (lq.setIfInBounds 9 true) = K at hK ⊢
     clear hJ2 hS z1 z2 z3 z4 z6 z7
     go_simp
     exact hK _ _ z5 (fun _ _ h => h) rfl hs
   | 10, ho =>
     cases ho
     refine wpOp_of rfl rfl ?_
     have f9 : (aq.tmps.getD 111 undef) = .pointer (some ⟨g, 0, none⟩) := z6 9 111 (hall { on := 9, ground := Ground.data } (by simp) rfl) rfl
     have hK := fun (v : Value) (W2 : World) hW hT hv (hs : Srn14 wA g ao n cap cs y3 y4 y5 y6 W2) => show (Jrn14 wA g ao n cap cs y3 y4 y5 y6 w0 a0) (lq.setIfInBounds 10 true) (aq.put (some 112) v) W2 from ⟨hJ2.put hS 10 112 rfl (by omega) (W' := W2) hW hT v hv, hs⟩
     clear ho hall hl hQ
     generalize (Jrn14 wA g ao n cap cs y3 y4 y5 y6 w0 a0) (lq.setIfInBounds 10 true) = K at hK ⊢
     clear hJ2 hS z1 z2 z3 z4 z6 z7
     obtain ⟨sR, sK, sB⟩ := hs
     go_simp
     refine (near_m28 g ao n cap cs W sR).mono ?_
     rintro e v1 ⟨_, rfl, ⟨p, rfl, _, _⟩, R1, K1⟩
     exact hK _ _ (z5.trans (kept_below sR.lt K1)) (fun _ _ h => Vrn14.kept hgA h K1) ⟨p, rfl⟩ ⟨R1, sK.trans K1, sB.kept K1 (by omega)⟩
   | 11, ho =>
     cases ho
     refine wpOp_of rfl rfl ?_
     have f8 : (aq.tmps.getD 110 undef) = .int .i64 y3 := z6 8 110 (hall { on := 8, ground := Ground.data } (by simp) rfl) rfl
     have f10 : ∃ z : Int, (aq.tmps.getD 112 undef) = .int .i64 z := z6 10 112 (hall { on := 10, ground := Ground.data } (by simp) rfl) rfl
     obtain ⟨z10q, f10⟩ := f10
     have hK := fun (v : Value) (W2 : World) hW hT hv (hs : Srn14 wA g ao n cap cs y3 y4 y5 y6 W2) => show (Jrn14 wA g ao n cap cs y3 y4 y5 y6 w0 a0) (lq.setIfInBounds 11 true) (aq.put (some 113) v) W2 from ⟨hJ2.put hS 11 113 rfl (by omega) (W' := W2) hW hT v hv, hs⟩
     clear ho hall hl hQ
     generalize (Jrn14 wA g ao n cap cs y3 y4 y5 y6 w0 a0) (lq.setIfInBounds 11 true) = K at hK ⊢
     clear hJ2 hS z1 z2 z3 z4 z6 z7
     go_simp
     exact hK _ _ z5 (fun _ _ h => h) ⟨_, rfl⟩ hs
   | 12, ho =>
     cases ho
     refine wpOp_of rfl rfl ?_
     have hK := fun (v : Value) (W2 : World) hW hT hv (hs : Srn14 wA g ao n cap cs y3 y4 y5 y6 W2) => show (Jrn14 wA g ao n cap cs y3 y4 y5 y6 w0 a0) (lq.setIfInBounds 12 true) (aq.put (some 114) v) W2 from ⟨hJ2.put hS 12 114 rfl (by omega) (W' := W2) hW hT v hv, hs⟩
     clear ho hall hl hQ
     generalize (Jrn14 wA g ao n cap cs y3 y4 y5 y6 w0 a0) (lq.setIfInBounds 12 true) = K at hK ⊢
     clear hJ2 hS z1 z2 z3 z4 z6 z7
     go_simp
     exact hK _ _ z5 (fun _ _ h => h) rfl hs
   | 13, ho =>
     cases ho
     refine wpOp_of rfl rfl ?_
     have hK := fun (v : Value) (W2 : World) hW hT hv (hs : Srn14 wA g ao n cap cs y3 y4 y5 y6 W2) => show (Jrn14 wA g ao n cap cs y3 y4 y5 y6 w0 a0) (lq.setIfInBounds 13 true) (aq.put (some 115) v) W2 from ⟨hJ2.put hS 13 115 rfl (by omega) (W' := W2) hW hT v hv, hs⟩
     clear ho hall hl hQ
     generalize (Jrn14 wA g ao n cap cs y3 y4 y5 y6 w0 a0) (lq.setIfInBounds 13 true) = K at hK ⊢
     clear hJ2 hS z1 z2 z3 z4 z6 z7
     go_simp
     exact hK _ _ z5 (fun _ _ h => h) rfl hs
   | 14, ho =>
     cases ho
     refine wpOp_of rfl rfl ?_
     have f12 : (aq.tmps.getD 114 undef) = .int .i64 y4 := z6 12 114 (hall { on := 12, ground := Ground.data } (by simp) rfl) rfl
     have f13 : (aq.tmps.getD 115 undef) = .int .i64 y6 := z6 13 115 (hall { on := 13, ground := Ground.data } (by simp) rfl) rfl
     have hK := fun (v : Value) (W2 : World) hW hT hv (hs : Srn14 wA g ao n cap cs y3 y4 y5 y6 W2) => show (Jrn14 wA g ao n cap cs y3 y4 y5 y6 w0 a0) (lq.setIfInBounds 14 true) (aq.put (some 116) v) W2 from ⟨hJ2.put hS 14 116 rfl (by omega) (W' := W2) hW hT v hv, hs⟩
     clear ho hall hl hQ
     generalize (Jrn14 wA g ao n cap cs y3 y4 y5 y6 w0 a0) (lq.setIfInBounds 14 true) = K at hK ⊢
     clear hJ2 hS z1 z2 z3 z4 z6 z7
     go_simp
     exact hK _ _ z5 (fun _ _ h => h) ⟨_, rfl⟩ hs
   | 15, ho =>
     cases ho
     refine wpOp_of rfl rfl ?_
     have f11 : ∃ z : Int, (aq.tmps.getD 113 undef) = .int .i64 z := z6 11 113 (hall { on := 11, ground := Ground.data } (by simp) rfl) rfl
     obtain ⟨z11q, f11⟩ := f11
     have f14 : ∃ z : Int, (aq.tmps.getD 116 undef) = .int .i64 z := z6 14 116 (hall { on := 14, ground := Ground.data } (by simp) rfl) rfl
     obtain ⟨z14q, f14⟩ := f14
     rw [Array.getD_eq_getD_getElem?] at f11
     rw [Array.getD_eq_getD_getElem?] at f14
     have hK := fun (v : Value) (W2 : World) hW hT hv (hs : Srn14 wA g ao n cap cs y3 y4 y5 y6 W2) => show (Jrn14 wA g ao n cap cs y3 y4 y5 y6 w0 a0) (lq.setIfInBounds 15 true) (aq.put (some 117) v) W2 from ⟨hJ2.put hS 15 117 rfl (by omega) (W' := W2) hW hT v hv, hs⟩
     clear ho hall hl hQ
     generalize (Jrn14 wA g ao n cap cs y3 y4 y5 y6 w0 a0) (lq.setIfInBounds 15 true) = K at hK ⊢
     clear hJ2 hS z1 z2 z3 z4 z6 z7
     go_simp
     exact hK _ _ z5 (fun _ _ h => h) ⟨_, _, rfl⟩ hs
   | 16, ho =>
     cases ho
     refine wpOp_of rfl rfl ?_
     have f2 : ∃ p q : Int, (aq.tmps.getD 104 undef) = .agg #[.int .i64 p, .int .i64 q] := z6 2 104 (hall { on := 2, ground := Ground.data } (by simp) rfl) rfl
     obtain ⟨p2q, r2q, f2⟩ := f2
     have f7 : ∃ p q : Int, (aq.tmps.getD 109 undef) = .agg #[.int .i64 p, .int .i64 q] := z6 7 109 (hall { on := 7, ground := Ground.data } (by simp) rfl) rfl
     obtain ⟨p7q, r7q, f7⟩ := f7
     have f15 : ∃ p q : Int, (aq.tmps.getD 117 undef) = .agg #[.int .i64 p, .int .i64 q] := z6 15 117 (hall { on := 15, ground := Ground.data } (by simp) rfl) rfl
     obtain ⟨p15q, r15q, f15⟩ := f15
     rw [Array.getD_eq_getD_getElem?] at f2
     rw [Array.getD_eq_getD_getElem?] at f7
     rw [Array.getD_eq_getD_getElem?] at f15
     have hK := fun (v : Value) (W2 : World) hW hT hv (hs : Srn14 wA g ao n cap cs y3 y4 y5 y6 W2) => show (Jrn14 wA g ao n cap cs y3 y4 y5 y6 w0 a0) (lq.setIfInBounds 16 true) (aq.put (some 118) v) W2 from ⟨hJ2.put hS 16 118 rfl (by omega) (W' := W2) hW hT v hv, hs⟩
     clear ho hall hl hQ
     generalize (Jrn14 wA g ao n cap cs y3 y4 y5 y6 w0 a0) (lq.setIfInBounds 16 true) = K at hK ⊢
     clear hJ2 hS z1 z2 z3 z4 z6 z7
     obtain ⟨sR, sK, sB⟩ := hs
     have sl := sB.lt
     have zs := z5.size
     go_simp
     exact hK _ _ (z5.alloc (by have := hgA; omega) _) (fun _ _ h => h.mono ((Below.refl _ _).alloc (Nat.le_refl _) _)) ⟨_, sp_made3 _ _ _ _ _ _ _ (by omega)⟩ ⟨sR.alloc _, sK.alloc _, sB.alloc _⟩
   | 17, ho =>
     cases ho
     refine wpOp_of rfl rfl ?_
     have f16 : ∃ L, SpRow W (wA.heap.size + 1) (aq.tmps.getD 118 undef) 3 L := z6 16 118 (hall { on := 16, ground := Ground.data } (by simp) rfl) rfl
     obtain ⟨Lq, Oq⟩ := f16
     have hK := fun (v : Value) (W2 : World) hW hT hv (hs : Srn14 wA g ao n cap cs y3 y4 y5 y6 W2) => show (Jrn14 wA g ao n cap cs y3 y4 y5 y6 w0 a0) (lq.setIfInBounds 17 true) (aq.put (some 7) v) W2 from ⟨hJ2.put hS 17 7 rfl (by omega) (W' := W2) hW hT v hv, hs⟩
     clear ho hall hl hQ
     generalize (Jrn14 wA g ao n cap cs y3 y4 y5 y6 w0 a0) (lq.setIfInBounds 17 true) = K at hK ⊢
     clear hJ2 hS z1 z2 z3 z4 z6 z7
     obtain ⟨aq2, cq2, eq2⟩ := ownG_slice Oq
     rw [eq2] at Oq
     rw [Array.getD_eq_getD_getElem?] at eq2
     go_simp
     exact hK _ _ z5 (fun _ _ h => h) ⟨Lq, Oq⟩ hs
   | iq + 18, ho => simp at ho
 · intro lq aq W ⟨hJ, hs⟩ hr
   obtain ⟨z1, z2, z3, z4, z5, z6, z7⟩ := hJ
   have hl := listed_of hr [0, 1, 2, 3, 4, 5, 6, 7, 8, 9, 10, 11, 12, 13, 14, 15, 16, 17] [] (by simp) (by kernel_rfl) (by rw [z1]; decide)
   exact hQ aq W z2 z3 (fun e he => z4 e (by simpa using he)) (z6 17 7 (hl 17 (by simp)) rfl) z5 hs
def Vrn16 (wA : World) (_g : Nat) (_ao : Option Addr) (_n _cap : Nat) (_cs : List Int) (y3 y5 y4 y6 : Int) (_B : Nat) : Nat → Value → World → Prop
 | 0, v, _ => v = .int .i64 y3
 | 1, v, _ => v = .int .i64 y5
 | 2, v, _ => ∃ z : Int, v = .int .i64 z
 | 3, v, _ => ∃ z : Int, v = .int .i64 z
 | 4, v, _ => v = .int .i64 y4
 | 5, v, _ => ∃ p q : Int, v = .agg #[.int .i64 p, .int .i64 q]
 | 6, v, _ => v = .int .i64 y3
 | 7, v, _ => v = .int .i64 y5
 | 8, v, _ => ∃ z : Int, v = .int .i64 z
 | 9, v, _ => v = .int .i64 y4
 | 10, v, _ => v = .int .i64 y6
 | 11, v, _ => ∃ z : Int, v = .int .i64 z
 | 12, v, _ => ∃ p q : Int, v = .agg #[.int .i64 p, .int .i64 q]
 | 13, v, _ => v = .int .i64 y3
 | 14, v, _ => v = .int .i64 y4
 | 15, v, _ => ∃ p q : Int, v = .agg #[.int .i64 p, .int .i64 q]
 | 16, v, _ => v = .int .i64 y3
 | 17, v, _ => v = .int .i64 y5
 | 18, v, _ => ∃ z : Int, v = .int .i64 z
 | 19, v, _ => v = .int .i64 y4
 | 20, v, _ => v = .int .i64 y6
 | 21, v, _ => ∃ z : Int, v = .int .i64 z
 | 22, v, _ => ∃ p q : Int, v = .agg #[.int .i64 p, .int .i64 q]
 | 23, v, W => ∃ L, SpRow W (wA.heap.size + 1) v 4 L
 | 24, v, W => ∃ L, SpRow W (wA.heap.size + 1) v 4 L
 | _, _, _ => True
theorem Vrn16.mono {wA : World} {g : Nat} {ao : Option Addr} {n cap : Nat} {cs : List Int} {y3 y5 y4 y6 : Int} {B j : Nat} {v : Value} {W W2 : World} (hB : Below W.heap.size W W2) (h : Vrn16 wA g ao n cap cs y3 y5 y4 y6 B j v W) : Vrn16 wA g ao n cap cs y3 y5 y4 y6 B j v W2 := by
 unfold Vrn16 at *
 split <;> simp only at h <;> first | exact h | (obtain ⟨L, O⟩ := h; exact ⟨L, ownG_step O hB⟩) | trivial
def Srn16 (wA : World) (g : Nat) (ao : Option Addr) (n cap : Nat) (cs : List Int) (_y3 _y5 _y4 _y6 : Int) (W : World) : Prop := Rdr W g ao n cap cs ∧ Kept g wA W ∧ Blk W wA.heap.size [.slice none 0 0]
def Jrn16 (wA : World) (g : Nat) (ao : Option Addr) (n cap : Nat) (cs : List Int) (y3 y5 y4 y6 : Int) (w0 : World) (a0 : Act) (lz : Array Bool) (az : Act) (W : World) : Prop := InvQ (g) [some 121, some 122, some 123, some 124, some 125, some 126, some 127, some 128, some 129, some 130, some 131, some 132, some 133, some 134, some 135, some 136, some 137, some 138, some 139, some 140, some 141, some 142, some 143, some 144, some 7] (Vrn16 wA g ao n cap cs y3 y5 y4 y6 (g)) w0 a0 lz az W ∧ Srn16 wA g ao n cap cs y3 y5 y4 y6 W
set_option maxRecDepth 100000 in
set_option maxHeartbeats 4000000 in
theorem rn16 {Q : Exit → Act → World → Prop} {wA : World} {g : Nat} {ao : Option Addr} {n cap : Nat} {cs : List Int} {y3 y5 y4 y6 : Int}  {w0 : World} {a0 : Act} {idq : Nat} {t0 t1 t2 t3 t4 t5 t6 t7 t8 t9 t10 t11 t12 t13 t14 t15 t16 t17 t18 t19 t20 t21 t22 t23 t24 : TypeId} {q0 q1 q2 q3 q4 q5 q6 q7 q8 q9 q10 q11 q12 q13 q14 q15 q16 q17 q18 q19 q20 q21 q22 q23 q24 : String}
   (hgA : g < wA.heap.size) (h0 : a0.tmps[0]? = some (.pointer (some ⟨g, 0, none⟩))) (h3 : a0.tmps[3]? = some (.int .i64 y3)) (h5 : a0.tmps[5]? = some (.int .i64 y5)) (h4 : a0.tmps[4]? = some (.int .i64 y4)) (h6 : a0.tmps[6]? = some (.int .i64 y6))  (hz : a0.tmps.size = 195) (hs0 : Srn16 wA g ao n cap cs y3 y5 y4 y6 w0)
   (hQ : ∀ aq W, aq.tmps.size = a0.tmps.size → aq.defers = a0.defers → (∀ e, e ∉ ([121, 122, 123, 124, 125, 126, 127, 128, 129, 130, 131, 132, 133, 134, 135, 136, 137, 138, 139, 140, 141, 142, 143, 144, 7] : List Nat) → aq.tmps[e]? = a0.tmps[e]?) → Vrn16 wA g ao n cap cs y3 y5 y4 y6 (g) 24 (aq.tmps.getD 7 undef) W → Below (g) w0 W → Srn16 wA g ao n cap cs y3 y5 y4 y6 W → Q .normal aq W) :
   (Code.region idq #[{ dst := some 121, op := Op.move (Operand.tmp 3), type := t0, pos := q0, after := #[], guard := none },
   { dst := some 122, op := Op.move (Operand.tmp 5), type := t1, pos := q1, after := #[], guard := none },
   { dst := some 123, op := Op.binOp BinOp.mul 2 (Operand.const (Value.int IntKind.i64 2)) (Operand.tmp 122) 2, type := t2, pos := q2, after := #[{ on := 1, ground := Ground.data }], guard := none },
   { dst := some 124, op := Op.binOp BinOp.add 2 (Operand.tmp 121) (Operand.tmp 123) 2, type := t3, pos := q3, after := #[{ on := 0, ground := Ground.data }, { on := 2, ground := Ground.data }], guard := none },
   { dst := some 125, op := Op.move (Operand.tmp 4), type := t4, pos := q4, after := #[], guard := none },
   { dst := some 126, op := Op.build 51 #[(0, Operand.tmp 124), (1, Operand.tmp 125)], type := t5, pos := q5, after := #[{ on := 3, ground := Ground.data }, { on := 4, ground := Ground.data }], guard := none },
   { dst := some 127, op := Op.move (Operand.tmp 3), type := t6, pos := q6, after := #[], guard := none },
   { dst := some 128, op := Op.move (Operand.tmp 5), type := t7, pos := q7, after := #[], guard := none },
   { dst := some 129, op := Op.binOp BinOp.add 2 (Operand.tmp 127) (Operand.tmp 128) 2, type := t8, pos := q8, after := #[{ on := 6, ground := Ground.data }, { on := 7, ground := Ground.data }], guard := none },
   { dst := some 130, op := Op.move (Operand.tmp 4), type := t9, pos := q9, after := #[], guard := none },
   { dst := some 131, op := Op.move (Operand.tmp 6), type := t10, pos := q10, after := #[], guard := none },
   { dst := some 132, op := Op.binOp BinOp.add 2 (Operand.tmp 130) (Operand.tmp 131) 2, type := t11, pos := q11, after := #[{ on := 9, ground := Ground.data }, { on := 10, ground := Ground.data }], guard := none },
   { dst := some 133, op := Op.build 51 #[(0, Operand.tmp 129), (1, Operand.tmp 132)], type := t12, pos := q12, after := #[{ on := 8, ground := Ground.data }, { on := 11, ground := Ground.data }], guard := none },
   { dst := some 134, op := Op.move (Operand.tmp 3), type := t13, pos := q13, after := #[], guard := none },
   { dst := some 135, op := Op.move (Operand.tmp 4), type := t14, pos := q14, after := #[], guard := none },
   { dst := some 136, op := Op.build 51 #[(0, Operand.tmp 134), (1, Operand.tmp 135)], type := t15, pos := q15, after := #[{ on := 13, ground := Ground.data }, { on := 14, ground := Ground.data }], guard := none },
   { dst := some 137, op := Op.move (Operand.tmp 3), type := t16, pos := q16, after := #[], guard := none },
   { dst := some 138, op := Op.move (Operand.tmp 5), type := t17, pos := q17, after := #[], guard := none },
   { dst := some 139, op := Op.binOp BinOp.add 2 (Operand.tmp 137) (Operand.tmp 138) 2, type := t18, pos := q18, after := #[{ on := 16, ground := Ground.data }, { on := 17, ground := Ground.data }], guard := none },
   { dst := some 140, op := Op.move (Operand.tmp 4), type := t19, pos := q19, after := #[], guard := none },
   { dst := some 141, op := Op.move (Operand.tmp 6), type := t20, pos := q20, after := #[], guard := none },
   { dst := some 142, op := Op.binOp BinOp.sub 2 (Operand.tmp 140) (Operand.tmp 141) 2, type := t21, pos := q21, after := #[{ on := 19, ground := Ground.data }, { on := 20, ground := Ground.data }], guard := none },
   { dst := some 143, op := Op.build 51 #[(0, Operand.tmp 139), (1, Operand.tmp 142)], type := t22, pos := q22, after := #[{ on := 18, ground := Ground.data }, { on := 21, ground := Ground.data }], guard := none },
   { dst := some 144, op := Op.buildSlice 55 4 #[(0, Operand.tmp 126), (1, Operand.tmp 133), (2, Operand.tmp 136), (3, Operand.tmp 143)], type := t23, pos := q23, after := #[{ on := 5, ground := Ground.data }, { on := 12, ground := Ground.data }, { on := 15, ground := Ground.data }, { on := 22, ground := Ground.data }], guard := none },
   { dst := some 7, op := Op.assign (Operand.tmp 144), type := t24, pos := q24, after := #[{ on := 23, ground := Ground.data }, { on := 0, ground := Ground.phase }, { on := 1, ground := Ground.phase }, { on := 2, ground := Ground.phase }, { on := 3, ground := Ground.phase }, { on := 4, ground := Ground.phase }, { on := 5, ground := Ground.phase }, { on := 6, ground := Ground.phase }, { on := 7, ground := Ground.phase }, { on := 8, ground := Ground.phase }, { on := 9, ground := Ground.phase }, { on := 10, ground := Ground.phase }, { on := 11, ground := Ground.phase }, { on := 12, ground := Ground.phase }, { on := 13, ground := Ground.phase }, { on := 14, ground := Ground.phase }, { on := 15, ground := Ground.phase }, { on := 16, ground := Ground.phase }, { on := 17, ground := Ground.phase }, { on := 18, ground := Ground.phase }, { on := 19, ground := Ground.phase }, { on := 20, ground := Ground.phase }, { on := 21, ground := Ground.phase }, { on := 22, ground := Ground.phase }, { on := 23, ground := Ground.phase }], guard := none }] false).wp Tryz.prog Q a0 w0 := by
 have hS : distS [some 121, some 122, some 123, some 124, some 125, some 126, some 127, some 128, some 129, some 130, some 131, some 132, some 133, some 134, some 135, some 136, some 137, some 138, some 139, some 140, some 141, some 142, some 143, some 144, some 7] = true := rfl
 refine wp_region_invp (Jrn16 wA g ao n cap cs y3 y5 y4 y6 w0 a0) (by kernel_rfl) ⟨⟨rfl, rfl, rfl, fun _ _ => rfl, Below.refl _ w0, fun j d hj => ?_, fun j hj => ?_⟩, hs0⟩ ?_ ?_
 · exfalso
   rw [Array.getD_eq_getD_getElem?, Array.getElem?_replicate] at hj
   split at hj <;> simp at hj
 · exfalso
   rw [Array.getD_eq_getD_getElem?, Array.getElem?_replicate] at hj
   split at hj <;> simp at hj
 · intro lq aq W iq oq ⟨hJ, hs⟩ hl ho hall
   have hJ2 := hJ
   obtain ⟨z1, z2, z3, z4, z5, z6, z7⟩ := hJ
   have g0 : aq.tmps.getD 0 undef = .pointer (some ⟨g, 0, none⟩) := by rw [Array.getD_eq_getD_getElem?, z4 0 (by decide), h0]; rfl
   have g3 : aq.tmps.getD 3 undef = .int .i64 y3 := by rw [Array.getD_eq_getD_getElem?, z4 3 (by decide), h3]; rfl
   have g5 : aq.tmps.getD 5 undef = .int .i64 y5 := by rw [Array.getD_eq_getD_getElem?, z4 5 (by decide), h5]; rfl
   have g4 : aq.tmps.getD 4 undef = .int .i64 y4 := by rw [Array.getD_eq_getD_getElem?, z4 4 (by decide), h4]; rfl
   have g6 : aq.tmps.getD 6 undef = .int .i64 y6 := by rw [Array.getD_eq_getD_getElem?, z4 6 (by decide), h6]; rfl
   match iq, ho with
   | 0, ho =>
     cases ho
     refine wpOp_of rfl rfl ?_
     have hK := fun (v : Value) (W2 : World) hW hT hv (hs : Srn16 wA g ao n cap cs y3 y5 y4 y6 W2) => show (Jrn16 wA g ao n cap cs y3 y5 y4 y6 w0 a0) (lq.setIfInBounds 0 true) (aq.put (some 121) v) W2 from ⟨hJ2.put hS 0 121 rfl (by omega) (W' := W2) hW hT v hv, hs⟩
     clear ho hall hl hQ
     generalize (Jrn16 wA g ao n cap cs y3 y5 y4 y6 w0 a0) (lq.setIfInBounds 0 true) = K at hK ⊢
     clear hJ2 hS z1 z2 z3 z4 z6 z7
     go_simp
     exact hK _ _ z5 (fun _ _ h => h) rfl hs
   | 1, ho =>
     cases ho
     refine wpOp_of rfl rfl ?_
     have hK := fun (v : Value) (W2 : World) hW hT hv (hs : Srn16 wA g ao n cap cs y3 y5 y4 y6 W2) => show (Jrn16 wA g ao n cap cs y3 y5 y4 y6 w0 a0) (lq.setIfInBounds 1 true) (aq.put (some 122) v) W2 from ⟨hJ2.put hS 1 122 rfl (by omega) (W' := W2) hW hT v hv, hs⟩
     clear ho hall hl hQ
     generalize (Jrn16 wA g ao n cap cs y3 y5 y4 y6 w0 a0) (lq.setIfInBounds 1 true) = K at hK ⊢
     clear hJ2 hS z1 z2 z3 z4 z6 z7
     go_simp
     exact hK _ _ z5 (fun _ _ h => h) rfl hs
   | 2, ho =>
     cases ho
     refine wpOp_of rfl rfl ?_
     have f1 : (aq.tmps.getD 122 undef) = .int .i64 y5 := z6 1 122 (hall { on := 1, ground := Ground.data } (by simp) rfl) rfl
     have hK := fun (v : Value) (W2 : World) hW hT hv (hs : Srn16 wA g ao n cap cs y3 y5 y4 y6 W2) => show (Jrn16 wA g ao n cap cs y3 y5 y4 y6 w0 a0) (lq.setIfInBounds 2 true) (aq.put (some 123) v) W2 from ⟨hJ2.put hS 2 123 rfl (by omega) (W' := W2) hW hT v hv, hs⟩
     clear ho hall hl hQ
     generalize (Jrn16 wA g ao n cap cs y3 y5 y4 y6 w0 a0) (lq.setIfInBounds 2 true) = K at hK ⊢
     clear hJ2 hS z1 z2 z3 z4 z6 z7
     go_simp
     exact hK _ _ z5 (fun _ _ h => h) ⟨_, rfl⟩ hs
   | 3, ho =>
     cases ho
     refine wpOp_of rfl rfl ?_
     have f0 : (aq.tmps.getD 121 undef) = .int .i64 y3 := z6 0 121 (hall { on := 0, ground := Ground.data } (by simp) rfl) rfl
     have f2 : ∃ z : Int, (aq.tmps.getD 123 undef) = .int .i64 z := z6 2 123 (hall { on := 2, ground := Ground.data } (by simp) rfl) rfl
     obtain ⟨z2q, f2⟩ := f2
     have hK := fun (v : Value) (W2 : World) hW hT hv (hs : Srn16 wA g ao n cap cs y3 y5 y4 y6 W2) => show (Jrn16 wA g ao n cap cs y3 y5 y4 y6 w0 a0) (lq.setIfInBounds 3 true) (aq.put (some 124) v) W2 from ⟨hJ2.put hS 3 124 rfl (by omega) (W' := W2) hW hT v hv, hs⟩
     clear ho hall hl hQ
     generalize (Jrn16 wA g ao n cap cs y3 y5 y4 y6 w0 a0) (lq.setIfInBounds 3 true) = K at hK ⊢
     clear hJ2 hS z1 z2 z3 z4 z6 z7
     go_simp
     exact hK _ _ z5 (fun _ _ h => h) ⟨_, rfl⟩ hs
   | 4, ho =>
     cases ho
     refine wpOp_of rfl rfl ?_
     have hK := fun (v : Value) (W2 : World) hW hT hv (hs : Srn16 wA g ao n cap cs y3 y5 y4 y6 W2) => show (Jrn16 wA g ao n cap cs y3 y5 y4 y6 w0 a0) (lq.setIfInBounds 4 true) (aq.put (some 125) v) W2 from ⟨hJ2.put hS 4 125 rfl (by omega) (W' := W2) hW hT v hv, hs⟩
     clear ho hall hl hQ
     generalize (Jrn16 wA g ao n cap cs y3 y5 y4 y6 w0 a0) (lq.setIfInBounds 4 true) = K at hK ⊢
     clear hJ2 hS z1 z2 z3 z4 z6 z7
     go_simp
     exact hK _ _ z5 (fun _ _ h => h) rfl hs
   | 5, ho =>
     cases ho
     refine wpOp_of rfl rfl ?_
     have f3 : ∃ z : Int, (aq.tmps.getD 124 undef) = .int .i64 z := z6 3 124 (hall { on := 3, ground := Ground.data } (by simp) rfl) rfl
     obtain ⟨z3q, f3⟩ := f3
     have f4 : (aq.tmps.getD 125 undef) = .int .i64 y4 := z6 4 125 (hall { on := 4, ground := Ground.data } (by simp) rfl) rfl
     rw [Array.getD_eq_getD_getElem?] at f3
     rw [Array.getD_eq_getD_getElem?] at f4
     have hK := fun (v : Value) (W2 : World) hW hT hv (hs : Srn16 wA g ao n cap cs y3 y5 y4 y6 W2) => show (Jrn16 wA g ao n cap cs y3 y5 y4 y6 w0 a0) (lq.setIfInBounds 5 true) (aq.put (some 126) v) W2 from ⟨hJ2.put hS 5 126 rfl (by omega) (W' := W2) hW hT v hv, hs⟩
     clear ho hall hl hQ
     generalize (Jrn16 wA g ao n cap cs y3 y5 y4 y6 w0 a0) (lq.setIfInBounds 5 true) = K at hK ⊢
     clear hJ2 hS z1 z2 z3 z4 z6 z7
     go_simp
     exact hK _ _ z5 (fun _ _ h => h) ⟨_, _, rfl⟩ hs
   | 6, ho =>
     cases ho
     refine wpOp_of rfl rfl ?_
     have hK := fun (v : Value) (W2 : World) hW hT hv (hs : Srn16 wA g ao n cap cs y3 y5 y4 y6 W2) => show (Jrn16 wA g ao n cap cs y3 y5 y4 y6 w0 a0) (lq.setIfInBounds 6 true) (aq.put (some 127) v) W2 from ⟨hJ2.put hS 6 127 rfl (by omega) (W' := W2) hW hT v hv, hs⟩
     clear ho hall hl hQ
     generalize (Jrn16 wA g ao n cap cs y3 y5 y4 y6 w0 a0) (lq.setIfInBounds 6 true) = K at hK ⊢
     clear hJ2 hS z1 z2 z3 z4 z6 z7
     go_simp
     exact hK _ _ z5 (fun _ _ h => h) rfl hs
   | 7, ho =>
     cases ho
     refine wpOp_of rfl rfl ?_
     have hK := fun (v : Value) (W2 : World) hW hT hv (hs : Srn16 wA g ao n cap cs y3 y5 y4 y6 W2) => show (Jrn16 wA g ao n cap cs y3 y5 y4 y6 w0 a0) (lq.setIfInBounds 7 true) (aq.put (some 128) v) W2 from ⟨hJ2.put hS 7 128 rfl (by omega) (W' := W2) hW hT v hv, hs⟩
     clear ho hall hl hQ
     generalize (Jrn16 wA g ao n cap cs y3 y5 y4 y6 w0 a0) (lq.setIfInBounds 7 true) = K at hK ⊢
     clear hJ2 hS z1 z2 z3 z4 z6 z7
     go_simp
     exact hK _ _ z5 (fun _ _ h => h) rfl hs
   | 8, ho =>
     cases ho
     refine wpOp_of rfl rfl ?_
     have f6 : (aq.tmps.getD 127 undef) = .int .i64 y3 := z6 6 127 (hall { on := 6, ground := Ground.data } (by simp) rfl) rfl
     have f7 : (aq.tmps.getD 128 undef) = .int .i64 y5 := z6 7 128 (hall { on := 7, ground := Ground.data } (by simp) rfl) rfl
     have hK := fun (v : Value) (W2 : World) hW hT hv (hs : Srn16 wA g ao n cap cs y3 y5 y4 y6 W2) => show (Jrn16 wA g ao n cap cs y3 y5 y4 y6 w0 a0) (lq.setIfInBounds 8 true) (aq.put (some 129) v) W2 from ⟨hJ2.put hS 8 129 rfl (by omega) (W' := W2) hW hT v hv, hs⟩
     clear ho hall hl hQ
     generalize (Jrn16 wA g ao n cap cs y3 y5 y4 y6 w0 a0) (lq.setIfInBounds 8 true) = K at hK ⊢
     clear hJ2 hS z1 z2 z3 z4 z6 z7
     go_simp
     exact hK _ _ z5 (fun _ _ h => h) ⟨_, rfl⟩ hs
   | 9, ho =>
     cases ho
     refine wpOp_of rfl rfl ?_
     have hK := fun (v : Value) (W2 : World) hW hT hv (hs : Srn16 wA g ao n cap cs y3 y5 y4 y6 W2) => show (Jrn16 wA g ao n cap cs y3 y5 y4 y6 w0 a0) (lq.setIfInBounds 9 true) (aq.put (some 130) v) W2 from ⟨hJ2.put hS 9 130 rfl (by omega) (W' := W2) hW hT v hv, hs⟩
     clear ho hall hl hQ
     generalize (Jrn16 wA g ao n cap cs y3 y5 y4 y6 w0 a0) (lq.setIfInBounds 9 true) = K at hK ⊢
     clear hJ2 hS z1 z2 z3 z4 z6 z7
     go_simp
     exact hK _ _ z5 (fun _ _ h => h) rfl hs
   | 10, ho =>
     cases ho
     refine wpOp_of rfl rfl ?_
     have hK := fun (v : Value) (W2 : World) hW hT hv (hs : Srn16 wA g ao n cap cs y3 y5 y4 y6 W2) => show (Jrn16 wA g ao n cap cs y3 y5 y4 y6 w0 a0) (lq.setIfInBounds 10 true) (aq.put (some 131) v) W2 from ⟨hJ2.put hS 10 131 rfl (by omega) (W' := W2) hW hT v hv, hs⟩
     clear ho hall hl hQ
     generalize (Jrn16 wA g ao n cap cs y3 y5 y4 y6 w0 a0) (lq.setIfInBounds 10 true) = K at hK ⊢
     clear hJ2 hS z1 z2 z3 z4 z6 z7
     go_simp
     exact hK _ _ z5 (fun _ _ h => h) rfl hs
   | 11, ho =>
     cases ho
     refine wpOp_of rfl rfl ?_
     have f9 : (aq.tmps.getD 130 undef) = .int .i64 y4 := z6 9 130 (hall { on := 9, ground := Ground.data } (by simp) rfl) rfl
     have f10 : (aq.tmps.getD 131 undef) = .int .i64 y6 := z6 10 131 (hall { on := 10, ground := Ground.data } (by simp) rfl) rfl
     have hK := fun (v : Value) (W2 : World) hW hT hv (hs : Srn16 wA g ao n cap cs y3 y5 y4 y6 W2) => show (Jrn16 wA g ao n cap cs y3 y5 y4 y6 w0 a0) (lq.setIfInBounds 11 true) (aq.put (some 132) v) W2 from ⟨hJ2.put hS 11 132 rfl (by omega) (W' := W2) hW hT v hv, hs⟩
     clear ho hall hl hQ
     generalize (Jrn16 wA g ao n cap cs y3 y5 y4 y6 w0 a0) (lq.setIfInBounds 11 true) = K at hK ⊢
     clear hJ2 hS z1 z2 z3 z4 z6 z7
     go_simp
     exact hK _ _ z5 (fun _ _ h => h) ⟨_, rfl⟩ hs
   | 12, ho =>
     cases ho
     refine wpOp_of rfl rfl ?_
     have f8 : ∃ z : Int, (aq.tmps.getD 129 undef) = .int .i64 z := z6 8 129 (hall { on := 8, ground := Ground.data } (by simp) rfl) rfl
     obtain ⟨z8q, f8⟩ := f8
     have f11 : ∃ z : Int, (aq.tmps.getD 132 undef) = .int .i64 z := z6 11 132 (hall { on := 11, ground := Ground.data } (by simp) rfl) rfl
     obtain ⟨z11q, f11⟩ := f11
     rw [Array.getD_eq_getD_getElem?] at f8
     rw [Array.getD_eq_getD_getElem?] at f11
     have hK := fun (v : Value) (W2 : World) hW hT hv (hs : Srn16 wA g ao n cap cs y3 y5 y4 y6 W2) => show (Jrn16 wA g ao n cap cs y3 y5 y4 y6 w0 a0) (lq.setIfInBounds 12 true) (aq.put (some 133) v) W2 from ⟨hJ2.put hS 12 133 rfl (by omega) (W' := W2) hW hT v hv, hs⟩
     clear ho hall hl hQ
     generalize (Jrn16 wA g ao n cap cs y3 y5 y4 y6 w0 a0) (lq.setIfInBounds 12 true) = K at hK ⊢
     clear hJ2 hS z1 z2 z3 z4 z6 z7
     go_simp
     exact hK _ _ z5 (fun _ _ h => h) ⟨_, _, rfl⟩ hs
   | 13, ho =>
     cases ho
     refine wpOp_of rfl rfl ?_
     have hK := fun (v : Value) (W2 : World) hW hT hv (hs : Srn16 wA g ao n cap cs y3 y5 y4 y6 W2) => show (Jrn16 wA g ao n cap cs y3 y5 y4 y6 w0 a0) (lq.setIfInBounds 13 true) (aq.put (some 134) v) W2 from ⟨hJ2.put hS 13 134 rfl (by omega) (W' := W2) hW hT v hv, hs⟩
     clear ho hall hl hQ
     generalize (Jrn16 wA g ao n cap cs y3 y5 y4 y6 w0 a0) (lq.setIfInBounds 13 true) = K at hK ⊢
     clear hJ2 hS z1 z2 z3 z4 z6 z7
     go_simp
     exact hK _ _ z5 (fun _ _ h => h) rfl hs
   | 14, ho =>
     cases ho
     refine wpOp_of rfl rfl ?_
     have hK := fun (v : Value) (W2 : World) hW hT hv (hs : Srn16 wA g ao n cap cs y3 y5 y4 y6 W2) => show (Jrn16 wA g ao n cap cs y3 y5 y4 y6 w0 a0) (lq.setIfInBounds 14 true) (aq.put (some 135) v) W2 from ⟨hJ2.put hS 14 135 rfl (by omega) (W' := W2) hW hT v hv, hs⟩
     clear ho hall hl hQ
     generalize (Jrn16 wA g ao n cap cs y3 y5 y4 y6 w0 a0) (lq.setIfInBounds 14 true) = K at hK ⊢
     clear hJ2 hS z1 z2 z3 z4 z6 z7
     go_simp
     exact hK _ _ z5 (fun _ _ h => h) rfl hs
   | 15, ho =>
     cases ho
     refine wpOp_of rfl rfl ?_
     have f13 : (aq.tmps.getD 134 undef) = .int .i64 y3 := z6 13 134 (hall { on := 13, ground := Ground.data } (by simp) rfl) rfl
     have f14 : (aq.tmps.getD 135 undef) = .int .i64 y4 := z6 14 135 (hall { on := 14, ground := Ground.data } (by simp) rfl) rfl
     rw [Array.getD_eq_getD_getElem?] at f13
     rw [Array.getD_eq_getD_getElem?] at f14
     have hK := fun (v : Value) (W2 : World) hW hT hv (hs : Srn16 wA g ao n cap cs y3 y5 y4 y6 W2) => show (Jrn16 wA g ao n cap cs y3 y5 y4 y6 w0 a0) (lq.setIfInBounds 15 true) (aq.put (some 136) v) W2 from ⟨hJ2.put hS 15 136 rfl (by omega) (W' := W2) hW hT v hv, hs⟩
     clear ho hall hl hQ
     generalize (Jrn16 wA g ao n cap cs y3 y5 y4 y6 w0 a0) (lq.setIfInBounds 15 true) = K at hK ⊢
     clear hJ2 hS z1 z2 z3 z4 z6 z7
     go_simp
     exact hK _ _ z5 (fun _ _ h => h) ⟨_, _, rfl⟩ hs
   | 16, ho =>
     cases ho
     refine wpOp_of rfl rfl ?_
     have hK := fun (v : Value) (W2 : World) hW hT hv (hs : Srn16 wA g ao n cap cs y3 y5 y4 y6 W2) => show (Jrn16 wA g ao n cap cs y3 y5 y4 y6 w0 a0) (lq.setIfInBounds 16 true) (aq.put (some 137) v) W2 from ⟨hJ2.put hS 16 137 rfl (by omega) (W' := W2) hW hT v hv, hs⟩
     clear ho hall hl hQ
     generalize (Jrn16 wA g ao n cap cs y3 y5 y4 y6 w0 a0) (lq.setIfInBounds 16 true) = K at hK ⊢
     clear hJ2 hS z1 z2 z3 z4 z6 z7
     go_simp
     exact hK _ _ z5 (fun _ _ h => h) rfl hs
   | 17, ho =>
     cases ho
     refine wpOp_of rfl rfl ?_
     have hK := fun (v : Value) (W2 : World) hW hT hv (hs : Srn16 wA g ao n cap cs y3 y5 y4 y6 W2) => show (Jrn16 wA g ao n cap cs y3 y5 y4 y6 w0 a0) (lq.setIfInBounds 17 true) (aq.put (some 138) v) W2 from ⟨hJ2.put hS 17 138 rfl (by omega) (W' := W2) hW hT v hv, hs⟩
     clear ho hall hl hQ
     generalize (Jrn16 wA g ao n cap cs y3 y5 y4 y6 w0 a0) (lq.setIfInBounds 17 true) = K at hK ⊢
     clear hJ2 hS z1 z2 z3 z4 z6 z7
     go_simp
     exact hK _ _ z5 (fun _ _ h => h) rfl hs
   | 18, ho =>
     cases ho
     refine wpOp_of rfl rfl ?_
     have f16 : (aq.tmps.getD 137 undef) = .int .i64 y3 := z6 16 137 (hall { on := 16, ground := Ground.data } (by simp) rfl) rfl
     have f17 : (aq.tmps.getD 138 undef) = .int .i64 y5 := z6 17 138 (hall { on := 17, ground := Ground.data } (by simp) rfl) rfl
     have hK := fun (v : Value) (W2 : World) hW hT hv (hs : Srn16 wA g ao n cap cs y3 y5 y4 y6 W2) => show (Jrn16 wA g ao n cap cs y3 y5 y4 y6 w0 a0) (lq.setIfInBounds 18 true) (aq.put (some 139) v) W2 from ⟨hJ2.put hS 18 139 rfl (by omega) (W' := W2) hW hT v hv, hs⟩
     clear ho hall hl hQ
     generalize (Jrn16 wA g ao n cap cs y3 y5 y4 y6 w0 a0) (lq.setIfInBounds 18 true) = K at hK ⊢
     clear hJ2 hS z1 z2 z3 z4 z6 z7
     go_simp
     exact hK _ _ z5 (fun _ _ h => h) ⟨_, rfl⟩ hs
   | 19, ho =>
     cases ho
     refine wpOp_of rfl rfl ?_
     have hK := fun (v : Value) (W2 : World) hW hT hv (hs : Srn16 wA g ao n cap cs y3 y5 y4 y6 W2) => show (Jrn16 wA g ao n cap cs y3 y5 y4 y6 w0 a0) (lq.setIfInBounds 19 true) (aq.put (some 140) v) W2 from ⟨hJ2.put hS 19 140 rfl (by omega) (W' := W2) hW hT v hv, hs⟩
     clear ho hall hl hQ
     generalize (Jrn16 wA g ao n cap cs y3 y5 y4 y6 w0 a0) (lq.setIfInBounds 19 true) = K at hK ⊢
     clear hJ2 hS z1 z2 z3 z4 z6 z7
     go_simp
     exact hK _ _ z5 (fun _ _ h => h) rfl hs
   | 20, ho =>
     cases ho
     refine wpOp_of rfl rfl ?_
     have hK := fun (v : Value) (W2 : World) hW hT hv (hs : Srn16 wA g ao n cap cs y3 y5 y4 y6 W2) => show (Jrn16 wA g ao n cap cs y3 y5 y4 y6 w0 a0) (lq.setIfInBounds 20 true) (aq.put (some 141) v) W2 from ⟨hJ2.put hS 20 141 rfl (by omega) (W' := W2) hW hT v hv, hs⟩
     clear ho hall hl hQ
     generalize (Jrn16 wA g ao n cap cs y3 y5 y4 y6 w0 a0) (lq.setIfInBounds 20 true) = K at hK ⊢
     clear hJ2 hS z1 z2 z3 z4 z6 z7
     go_simp
     exact hK _ _ z5 (fun _ _ h => h) rfl hs
   | 21, ho =>
     cases ho
     refine wpOp_of rfl rfl ?_
     have f19 : (aq.tmps.getD 140 undef) = .int .i64 y4 := z6 19 140 (hall { on := 19, ground := Ground.data } (by simp) rfl) rfl
     have f20 : (aq.tmps.getD 141 undef) = .int .i64 y6 := z6 20 141 (hall { on := 20, ground := Ground.data } (by simp) rfl) rfl
     have hK := fun (v : Value) (W2 : World) hW hT hv (hs : Srn16 wA g ao n cap cs y3 y5 y4 y6 W2) => show (Jrn16 wA g ao n cap cs y3 y5 y4 y6 w0 a0) (lq.setIfInBounds 21 true) (aq.put (some 142) v) W2 from ⟨hJ2.put hS 21 142 rfl (by omega) (W' := W2) hW hT v hv, hs⟩
     clear ho hall hl hQ
     generalize (Jrn16 wA g ao n cap cs y3 y5 y4 y6 w0 a0) (lq.setIfInBounds 21 true) = K at hK ⊢
     clear hJ2 hS z1 z2 z3 z4 z6 z7
     go_simp
     exact hK _ _ z5 (fun _ _ h => h) ⟨_, rfl⟩ hs
   | 22, ho =>
     cases ho
     refine wpOp_of rfl rfl ?_
     have f18 : ∃ z : Int, (aq.tmps.getD 139 undef) = .int .i64 z := z6 18 139 (hall { on := 18, ground := Ground.data } (by simp) rfl) rfl
     obtain ⟨z18q, f18⟩ := f18
     have f21 : ∃ z : Int, (aq.tmps.getD 142 undef) = .int .i64 z := z6 21 142 (hall { on := 21, ground := Ground.data } (by simp) rfl) rfl
     obtain ⟨z21q, f21⟩ := f21
     rw [Array.getD_eq_getD_getElem?] at f18
     rw [Array.getD_eq_getD_getElem?] at f21
     have hK := fun (v : Value) (W2 : World) hW hT hv (hs : Srn16 wA g ao n cap cs y3 y5 y4 y6 W2) => show (Jrn16 wA g ao n cap cs y3 y5 y4 y6 w0 a0) (lq.setIfInBounds 22 true) (aq.put (some 143) v) W2 from ⟨hJ2.put hS 22 143 rfl (by omega) (W' := W2) hW hT v hv, hs⟩
     clear ho hall hl hQ
     generalize (Jrn16 wA g ao n cap cs y3 y5 y4 y6 w0 a0) (lq.setIfInBounds 22 true) = K at hK ⊢
     clear hJ2 hS z1 z2 z3 z4 z6 z7
     go_simp
     exact hK _ _ z5 (fun _ _ h => h) ⟨_, _, rfl⟩ hs
   | 23, ho =>
     cases ho
     refine wpOp_of rfl rfl ?_
     have f5 : ∃ p q : Int, (aq.tmps.getD 126 undef) = .agg #[.int .i64 p, .int .i64 q] := z6 5 126 (hall { on := 5, ground := Ground.data } (by simp) rfl) rfl
     obtain ⟨p5q, r5q, f5⟩ := f5
     have f12 : ∃ p q : Int, (aq.tmps.getD 133 undef) = .agg #[.int .i64 p, .int .i64 q] := z6 12 133 (hall { on := 12, ground := Ground.data } (by simp) rfl) rfl
     obtain ⟨p12q, r12q, f12⟩ := f12
     have f15 : ∃ p q : Int, (aq.tmps.getD 136 undef) = .agg #[.int .i64 p, .int .i64 q] := z6 15 136 (hall { on := 15, ground := Ground.data } (by simp) rfl) rfl
     obtain ⟨p15q, r15q, f15⟩ := f15
     have f22 : ∃ p q : Int, (aq.tmps.getD 143 undef) = .agg #[.int .i64 p, .int .i64 q] := z6 22 143 (hall { on := 22, ground := Ground.data } (by simp) rfl) rfl
     obtain ⟨p22q, r22q, f22⟩ := f22
     rw [Array.getD_eq_getD_getElem?] at f5
     rw [Array.getD_eq_getD_getElem?] at f12
     rw [Array.getD_eq_getD_getElem?] at f15
     rw [Array.getD_eq_getD_getElem?] at f22
     have hK := fun (v : Value) (W2 : World) hW hT hv (hs : Srn16 wA g ao n cap cs y3 y5 y4 y6 W2) => show (Jrn16 wA g ao n cap cs y3 y5 y4 y6 w0 a0) (lq.setIfInBounds 23 true) (aq.put (some 144) v) W2 from ⟨hJ2.put hS 23 144 rfl (by omega) (W' := W2) hW hT v hv, hs⟩
     clear ho hall hl hQ
     generalize (Jrn16 wA g ao n cap cs y3 y5 y4 y6 w0 a0) (lq.setIfInBounds 23 true) = K at hK ⊢
     clear hJ2 hS z1 z2 z3 z4 z6 z7
     obtain ⟨sR, sK, sB⟩ := hs
     have sl := sB.lt
     have zs := z5.size
     go_simp
     exact hK _ _ (z5.alloc (by have := hgA; omega) _) (fun _ _ h => h.mono ((Below.refl _ _).alloc (Nat.le_refl _) _)) ⟨_, sp_made4 _ _ _ _ _ _ _ _ _ (by omega)⟩ ⟨sR.alloc _, sK.alloc _, sB.alloc _⟩
   | 24, ho =>
     cases ho
     refine wpOp_of rfl rfl ?_
     have f23 : ∃ L, SpRow W (wA.heap.size + 1) (aq.tmps.getD 144 undef) 4 L := z6 23 144 (hall { on := 23, ground := Ground.data } (by simp) rfl) rfl
     obtain ⟨Lq, Oq⟩ := f23
     have hK := fun (v : Value) (W2 : World) hW hT hv (hs : Srn16 wA g ao n cap cs y3 y5 y4 y6 W2) => show (Jrn16 wA g ao n cap cs y3 y5 y4 y6 w0 a0) (lq.setIfInBounds 24 true) (aq.put (some 7) v) W2 from ⟨hJ2.put hS 24 7 rfl (by omega) (W' := W2) hW hT v hv, hs⟩
     clear ho hall hl hQ
     generalize (Jrn16 wA g ao n cap cs y3 y5 y4 y6 w0 a0) (lq.setIfInBounds 24 true) = K at hK ⊢
     clear hJ2 hS z1 z2 z3 z4 z6 z7
     obtain ⟨aq2, cq2, eq2⟩ := ownG_slice Oq
     rw [eq2] at Oq
     rw [Array.getD_eq_getD_getElem?] at eq2
     go_simp
     exact hK _ _ z5 (fun _ _ h => h) ⟨Lq, Oq⟩ hs
   | iq + 25, ho => simp at ho
 · intro lq aq W ⟨hJ, hs⟩ hr
   obtain ⟨z1, z2, z3, z4, z5, z6, z7⟩ := hJ
   have hl := listed_of hr [0, 1, 2, 3, 4, 5, 6, 7, 8, 9, 10, 11, 12, 13, 14, 15, 16, 17, 18, 19, 20, 21, 22, 23, 24] [] (by simp) (by kernel_rfl) (by rw [z1]; decide)
   exact hQ aq W z2 z3 (fun e he => z4 e (by simpa using he)) (z6 24 7 (hl 24 (by simp)) rfl) z5 hs
end Go.Proofs.YteakhlipmmfilaaGreat
