/- Part 8 of the walks that the proof leans on. -/
import Derived.Test.YthelolpogdcmhaaPart7
import Derived.Test.YthelolpogdcmhaaPart2
namespace Go.Proofs.Ythelolpogdcmhaa
open Go.RowKit
def VqfB (P gq_ gr : Nat) (bo io : Option Addr) (nb cb ni ci : Nat) (d : Int) (bb : Bool) (FP : Value → Prop) (_HW : World → Prop) (_Wd : World) (_B : Nat) : Nat → Value → World → Prop
 | 0, v, _ => v = .pointer (some ⟨gq_, 0, none⟩)
 | 1, v, _ => v = .pointer (some ⟨gq_, 0, none⟩)
 | 2, v, _ => v = .pointer (some ⟨gq_, 3, none⟩)
 | 3, v, _ => v = .pointer (some ⟨gr, 0, none⟩)
 | 4, v, _ => v = .pointer (some ⟨P, 3, none⟩)
 | 5, v, _ => v = .slice bo nb cb
 | 6, v, _ => v = .pointer (some ⟨P, 2, none⟩)
 | 7, v, _ => v = .slice io ni ci
 | 8, v, _ => v = .pointer (some ⟨P, 1, none⟩)
 | 9, v, _ => v = .int .i64 d
 | 10, v, _ => ∃ rv, v = .tuple #[rv, .bool bb] ∧ FP rv
 | 11, v, _ => ∃ rv, v = .tuple #[rv, .bool bb] ∧ FP rv
 | 12, v, _ => FP v
 | 13, v, _ => v = .bool bb
 | 14, v, _ => FP v
 | 15, v, _ => v = .bool bb
 | _, _, _ => True
theorem VqfB.same {P gq_ gr : Nat} {bo io : Option Addr} {nb cb ni ci : Nat} {d : Int} {bb : Bool} {FP : Value → Prop} {HW : World → Prop} {Wd : World} {B j : Nat} {v : Value} {W W2 : World} (h : VqfB P gq_ gr bo io nb cb ni ci d bb FP HW Wd B j v W) : VqfB P gq_ gr bo io nb cb ni ci d bb FP HW Wd B j v W2 := by
 unfold VqfB at *
 split <;> simp only at h <;> first | exact h | trivial
def SqfB (_P _gq_ _gr : Nat) (_bo _io : Option Addr) (_nb _cb _ni _ci : Nat) (_d : Int) (_bb : Bool) (_FP : Value → Prop) (HW : World → Prop) (Wd : World) (lz : Array Bool) (_az : Act) (W : World) : Prop := (lz.getD 10 false = false → W = Wd) ∧ (lz.getD 10 false = true → lz.getD 3 false = true) ∧ (lz.getD 10 false = true → HW W)
def JqfB (P gq_ gr : Nat) (bo io : Option Addr) (nb cb ni ci : Nat) (d : Int) (bb : Bool) (FP : Value → Prop) (HW : World → Prop) (Wd : World) (w0 : World) (a0 : Act) (lz : Array Bool) (az : Act) (W : World) : Prop := InvQ (gr) [some 36, some 37, some 38, some 39, some 40, some 41, some 42, some 43, some 44, some 45, some 46, some 35, some 47, some 48, some 5, some 6] (VqfB P gq_ gr bo io nb cb ni ci d bb FP HW Wd (gr)) w0 a0 lz az W ∧ SqfB P gq_ gr bo io nb cb ni ci d bb FP HW Wd lz az W
set_option maxRecDepth 100000 in
set_option maxHeartbeats 4000000 in
theorem qfB {Q : Exit → Act → World → Prop} {P gq_ gr : Nat} {bo io : Option Addr} {nb cb ni ci : Nat} {d : Int} {bb : Bool} {FP : Value → Prop} {HW : World → Prop} {Wd : World}  {w0 : World} {a0 : Act} {idq : Nat} {t0 t1 t2 t3 t4 t5 t6 t7 t8 t9 t10 t11 t12 t13 t14 t15 : TypeId} {q0 q1 q2 q3 q4 q5 q6 q7 q8 q9 q10 q11 q12 q13 q14 q15 : String}
   (hgr : gr < w0.heap.size) (hgq : Wd.cell? ⟨gq_, 3, none⟩ = some (.pointer (some ⟨gr, 0, none⟩))) (hRD : Calls Try.prog 44 #[.pointer (some ⟨gr, 0, none⟩), .slice bo nb cb, .slice io ni ci, .int .i64 d] Wd (fun r w' => ∃ rv, r = .returned (.tuple #[rv, .bool bb]) ∧ FP rv ∧ Wd.grownBy w' (some gr) ∧ HW w')) (hWe : Wd = w0.drew) (h1 : a0.tmps[1]? = some (.pointer (some ⟨P, 0, none⟩))) (h4 : a0.tmps[4]? = some (.pointer (some ⟨gq_, 0, none⟩))) (k0 : w0.cell? ⟨P, 3, none⟩ = some (.slice bo nb cb)) (l0 : (⟨P, 3, none⟩ : Addr).block < gr) (k1 : w0.cell? ⟨P, 2, none⟩ = some (.slice io ni ci)) (l1 : (⟨P, 2, none⟩ : Addr).block < gr) (k2 : w0.cell? ⟨P, 1, none⟩ = some (.int .i64 d)) (l2 : (⟨P, 1, none⟩ : Addr).block < gr) (hz : a0.tmps.size = 57)
   (hQ : ∀ aq W, aq.tmps.size = a0.tmps.size → aq.defers = a0.defers → (∀ e, e ∉ ([36, 37, 38, 39, 40, 41, 42, 43, 44, 45, 46, 35, 47, 48, 5, 6] : List Nat) → aq.tmps[e]? = a0.tmps[e]?) → VqfB P gq_ gr bo io nb cb ni ci d bb FP HW Wd (gr) 14 (aq.tmps.getD 5 undef) W → VqfB P gq_ gr bo io nb cb ni ci d bb FP HW Wd (gr) 15 (aq.tmps.getD 6 undef) W → Below (gr) w0 W → (HW W) → Q .normal aq W) :
   (Code.region idq #[{ dst := some 36, op := Op.move (Operand.tmp 4), type := t0, pos := q0, after := #[], guard := none },
   { dst := some 37, op := Op.nilCheck (Operand.tmp 36), type := t1, pos := q1, after := #[{ on := 0, ground := Ground.data }], guard := none },
   { dst := some 38, op := Op.fieldAddr 65 (Operand.tmp 37) 3, type := t2, pos := q2, after := #[{ on := 1, ground := Ground.data }], guard := none },
   { dst := some 39, op := Op.load 63 (Operand.tmp 38), type := t3, pos := q3, after := #[{ on := 2, ground := Ground.data }], guard := none },
   { dst := some 40, op := Op.fieldAddr 35 (Operand.tmp 1) 3, type := t4, pos := q4, after := #[], guard := none },
   { dst := some 41, op := Op.load 33 (Operand.tmp 40), type := t5, pos := q5, after := #[{ on := 4, ground := Ground.data }], guard := none },
   { dst := some 42, op := Op.fieldAddr 35 (Operand.tmp 1) 2, type := t6, pos := q6, after := #[], guard := none },
   { dst := some 43, op := Op.load 32 (Operand.tmp 42), type := t7, pos := q7, after := #[{ on := 6, ground := Ground.data }], guard := none },
   { dst := some 44, op := Op.fieldAddr 35 (Operand.tmp 1) 1, type := t8, pos := q8, after := #[], guard := none },
   { dst := some 45, op := Op.load 2 (Operand.tmp 44), type := t9, pos := q9, after := #[{ on := 8, ground := Ground.data }], guard := none },
   { dst := some 46, op := Op.call { callee := Callee.value (Operand.func 44), args := #[Operand.tmp 39, Operand.tmp 41, Operand.tmp 43, Operand.tmp 45], argTypes := #[63, 33, 32, 2] }, type := t10, pos := q10, after := #[{ on := 3, ground := Ground.data }, { on := 5, ground := Ground.data }, { on := 7, ground := Ground.data }, { on := 9, ground := Ground.data }], guard := none },
   { dst := some 35, op := Op.move (Operand.tmp 46), type := t11, pos := q11, after := #[{ on := 10, ground := Ground.data }], guard := none },
   { dst := some 47, op := Op.extract (Operand.tmp 35) 0, type := t12, pos := q12, after := #[{ on := 11, ground := Ground.data }], guard := none },
   { dst := some 48, op := Op.extract (Operand.tmp 35) 1, type := t13, pos := q13, after := #[{ on := 11, ground := Ground.data }, { on := 14, ground := Ground.gcOnly Departure.lateStores }], guard := none },
   { dst := some 5, op := Op.assign (Operand.tmp 47), type := t14, pos := q14, after := #[{ on := 12, ground := Ground.data }, { on := 10, ground := Ground.chain }, { on := 0, ground := Ground.phase }, { on := 1, ground := Ground.phase }, { on := 2, ground := Ground.phase }, { on := 3, ground := Ground.phase }, { on := 4, ground := Ground.phase }, { on := 5, ground := Ground.phase }, { on := 6, ground := Ground.phase }, { on := 7, ground := Ground.phase }, { on := 8, ground := Ground.phase }, { on := 9, ground := Ground.phase }, { on := 10, ground := Ground.phase }, { on := 11, ground := Ground.phase }, { on := 12, ground := Ground.phase }, { on := 13, ground := Ground.textOnly Departure.lateStores }], guard := none },
   { dst := some 6, op := Op.assign (Operand.tmp 48), type := t15, pos := q15, after := #[{ on := 13, ground := Ground.data }, { on := 14, ground := Ground.chain }, { on := 0, ground := Ground.phase }, { on := 1, ground := Ground.phase }, { on := 2, ground := Ground.phase }, { on := 3, ground := Ground.phase }, { on := 4, ground := Ground.phase }, { on := 5, ground := Ground.phase }, { on := 6, ground := Ground.phase }, { on := 7, ground := Ground.phase }, { on := 8, ground := Ground.phase }, { on := 9, ground := Ground.phase }, { on := 10, ground := Ground.phase }, { on := 11, ground := Ground.phase }, { on := 12, ground := Ground.phase }, { on := 13, ground := Ground.phase }, { on := 14, ground := Ground.phase }], guard := none }] true).wp Try.prog Q a0 w0 := by
 have hS : distS [some 36, some 37, some 38, some 39, some 40, some 41, some 42, some 43, some 44, some 45, some 46, some 35, some 47, some 48, some 5, some 6] = true := rfl
 refine wp_region_inv (by kernel_rfl) (JqfB P gq_ gr bo io nb cb ni ci d bb FP HW Wd w0 a0) ⟨⟨rfl, rfl, rfl, fun _ _ => rfl, (Below.refl _ w0).drew, fun j d hj => ?_, fun j hj => ?_⟩, ⟨fun _ => hWe.symm, (fun h => by rw [replD] at h; cases h), (fun h => by rw [replD] at h; cases h)⟩⟩ ?_ ?_
 · exfalso
   rw [Array.getD_eq_getD_getElem?, Array.getElem?_replicate] at hj
   split at hj <;> simp at hj
 · exfalso
   rw [Array.getD_eq_getD_getElem?, Array.getElem?_replicate] at hj
   split at hj <;> simp at hj
 · intro lq aq W iq oq ⟨hJ, hs⟩ hl ho hall
   have hJ2 := hJ
   obtain ⟨z1, z2, z3, z4, z5, z6, z7⟩ := hJ
   have g1 : aq.tmps.getD 1 undef = .pointer (some ⟨P, 0, none⟩) := by rw [Array.getD_eq_getD_getElem?, z4 1 (by decide), h1]; rfl
   have g4 : aq.tmps.getD 4 undef = .pointer (some ⟨gq_, 0, none⟩) := by rw [Array.getD_eq_getD_getElem?, z4 4 (by decide), h4]; rfl
   have c0 : W.cell? ⟨P, 3, none⟩ = some (.slice bo nb cb) := (z5.cell l0).trans k0
   have c1 : W.cell? ⟨P, 2, none⟩ = some (.slice io ni ci) := (z5.cell l1).trans k1
   have c2 : W.cell? ⟨P, 1, none⟩ = some (.int .i64 d) := (z5.cell l2).trans k2
   match iq, ho with
   | 0, ho =>
     cases ho
     refine wpOp_of rfl rfl ?_
     have hq : ∀ v : Value, SqfB P gq_ gr bo io nb cb ni ci d bb FP HW Wd (lq.setIfInBounds 0 true) (aq.put (some 36) v) W := fun v => ⟨by rw [getD_set_neq (i := 0) (j := 10) (by decide)]; exact hs.1, by rw [getD_set_neq (i := 0) (j := 10) (by decide), getD_set_neq (i := 0) (j := 3) (by decide)]; exact hs.2.1, by rw [getD_set_neq (i := 0) (j := 10) (by decide)]; exact hs.2.2⟩
     clear hWe
     have hK := fun (v : Value) (W2 : World) hW hT hv (hs : SqfB P gq_ gr bo io nb cb ni ci d bb FP HW Wd (lq.setIfInBounds 0 true) (aq.put (some 36) v) W2) => show (JqfB P gq_ gr bo io nb cb ni ci d bb FP HW Wd w0 a0) (lq.setIfInBounds 0 true) (aq.put (some 36) v) W2 from ⟨hJ2.put hS 0 36 rfl (by omega) (W' := W2) hW hT v hv, hs⟩
     clear ho hall hl hQ
     generalize (JqfB P gq_ gr bo io nb cb ni ci d bb FP HW Wd w0 a0) (lq.setIfInBounds 0 true) = K at hK ⊢
     clear hJ2 hS z1 z2 z3 z4 z6 z7
     go_simp
     exact hK _ _ z5 (fun _ _ h => h) rfl (hq _)
   | 1, ho =>
     cases ho
     refine wpOp_of rfl rfl ?_
     have f0 : (aq.tmps.getD 36 undef) = .pointer (some ⟨gq_, 0, none⟩) := z6 0 36 (hall { on := 0, ground := Ground.data } (by simp) rfl) rfl
     have hq : ∀ v : Value, SqfB P gq_ gr bo io nb cb ni ci d bb FP HW Wd (lq.setIfInBounds 1 true) (aq.put (some 37) v) W := fun v => ⟨by rw [getD_set_neq (i := 1) (j := 10) (by decide)]; exact hs.1, by rw [getD_set_neq (i := 1) (j := 10) (by decide), getD_set_neq (i := 1) (j := 3) (by decide)]; exact hs.2.1, by rw [getD_set_neq (i := 1) (j := 10) (by decide)]; exact hs.2.2⟩
     clear hWe
     have hK := fun (v : Value) (W2 : World) hW hT hv (hs : SqfB P gq_ gr bo io nb cb ni ci d bb FP HW Wd (lq.setIfInBounds 1 true) (aq.put (some 37) v) W2) => show (JqfB P gq_ gr bo io nb cb ni ci d bb FP HW Wd w0 a0) (lq.setIfInBounds 1 true) (aq.put (some 37) v) W2 from ⟨hJ2.put hS 1 37 rfl (by omega) (W' := W2) hW hT v hv, hs⟩
     clear ho hall hl hQ
     generalize (JqfB P gq_ gr bo io nb cb ni ci d bb FP HW Wd w0 a0) (lq.setIfInBounds 1 true) = K at hK ⊢
     clear hJ2 hS z1 z2 z3 z4 z6 z7
     go_simp
     exact hK _ _ z5 (fun _ _ h => h) rfl (hq _)
   | 2, ho =>
     cases ho
     refine wpOp_of rfl rfl ?_
     have f1 : (aq.tmps.getD 37 undef) = .pointer (some ⟨gq_, 0, none⟩) := z6 1 37 (hall { on := 1, ground := Ground.data } (by simp) rfl) rfl
     have hq : ∀ v : Value, SqfB P gq_ gr bo io nb cb ni ci d bb FP HW Wd (lq.setIfInBounds 2 true) (aq.put (some 38) v) W := fun v => ⟨by rw [getD_set_neq (i := 2) (j := 10) (by decide)]; exact hs.1, by rw [getD_set_neq (i := 2) (j := 10) (by decide), getD_set_neq (i := 2) (j := 3) (by decide)]; exact hs.2.1, by rw [getD_set_neq (i := 2) (j := 10) (by decide)]; exact hs.2.2⟩
     clear hWe
     have hK := fun (v : Value) (W2 : World) hW hT hv (hs : SqfB P gq_ gr bo io nb cb ni ci d bb FP HW Wd (lq.setIfInBounds 2 true) (aq.put (some 38) v) W2) => show (JqfB P gq_ gr bo io nb cb ni ci d bb FP HW Wd w0 a0) (lq.setIfInBounds 2 true) (aq.put (some 38) v) W2 from ⟨hJ2.put hS 2 38 rfl (by omega) (W' := W2) hW hT v hv, hs⟩
     clear ho hall hl hQ
     generalize (JqfB P gq_ gr bo io nb cb ni ci d bb FP HW Wd w0 a0) (lq.setIfInBounds 2 true) = K at hK ⊢
     clear hJ2 hS z1 z2 z3 z4 z6 z7
     go_simp
     exact hK _ _ z5 (fun _ _ h => h) rfl (hq _)
   | 3, ho =>
     cases ho
     refine wpOp_of rfl rfl ?_
     have f2 : (aq.tmps.getD 38 undef) = .pointer (some ⟨gq_, 3, none⟩) := z6 2 38 (hall { on := 2, ground := Ground.data } (by simp) rfl) rfl
     have h10 : lq.getD 10 false = false := by cases e : lq.getD 10 false with | false => rfl | true => have := hs.2.1 e; rw [getD_tf hl] at this; cases this
     have eW := hs.1 h10
     have c9 : W.cell? ⟨gq_, 3, none⟩ = some (.pointer (some ⟨gr, 0, none⟩)) := by rw [eW]; exact hgq
     have hq : ∀ v : Value, SqfB P gq_ gr bo io nb cb ni ci d bb FP HW Wd (lq.setIfInBounds 3 true) (aq.put (some 39) v) W := fun v => ⟨by rw [getD_set_neq (i := 3) (j := 10) (by decide)]; exact hs.1, fun _ => getD_set_eq hl, by rw [getD_set_neq (i := 3) (j := 10) (by decide)]; exact hs.2.2⟩
     clear eW hWe hs
     have hK := fun (v : Value) (W2 : World) hW hT hv (hs : SqfB P gq_ gr bo io nb cb ni ci d bb FP HW Wd (lq.setIfInBounds 3 true) (aq.put (some 39) v) W2) => show (JqfB P gq_ gr bo io nb cb ni ci d bb FP HW Wd w0 a0) (lq.setIfInBounds 3 true) (aq.put (some 39) v) W2 from ⟨hJ2.put hS 3 39 rfl (by omega) (W' := W2) hW hT v hv, hs⟩
     clear ho hall hl hQ
     generalize (JqfB P gq_ gr bo io nb cb ni ci d bb FP HW Wd w0 a0) (lq.setIfInBounds 3 true) = K at hK ⊢
     clear hJ2 hS z1 z2 z3 z4 z6 z7
     go_simp
     exact hK _ _ z5 (fun _ _ h => h) rfl (hq _)
   | 4, ho =>
     cases ho
     refine wpOp_of rfl rfl ?_
     have hq : ∀ v : Value, SqfB P gq_ gr bo io nb cb ni ci d bb FP HW Wd (lq.setIfInBounds 4 true) (aq.put (some 40) v) W := fun v => ⟨by rw [getD_set_neq (i := 4) (j := 10) (by decide)]; exact hs.1, by rw [getD_set_neq (i := 4) (j := 10) (by decide), getD_set_neq (i := 4) (j := 3) (by decide)]; exact hs.2.1, by rw [getD_set_neq (i := 4) (j := 10) (by decide)]; exact hs.2.2⟩
     clear hWe
     have hK := fun (v : Value) (W2 : World) hW hT hv (hs : SqfB P gq_ gr bo io nb cb ni ci d bb FP HW Wd (lq.setIfInBounds 4 true) (aq.put (some 40) v) W2) => show (JqfB P gq_ gr bo io nb cb ni ci d bb FP HW Wd w0 a0) (lq.setIfInBounds 4 true) (aq.put (some 40) v) W2 from ⟨hJ2.put hS 4 40 rfl (by omega) (W' := W2) hW hT v hv, hs⟩
     clear ho hall hl hQ
     generalize (JqfB P gq_ gr bo io nb cb ni ci d bb FP HW Wd w0 a0) (lq.setIfInBounds 4 true) = K at hK ⊢
     clear hJ2 hS z1 z2 z3 z4 z6 z7
     go_simp
     exact hK _ _ z5 (fun _ _ h => h) rfl (hq _)
   | 5, ho =>
     cases ho
     refine wpOp_of rfl rfl ?_
     have f4 : (aq.tmps.getD 40 undef) = .pointer (some ⟨P, 3, none⟩) := z6 4 40 (hall { on := 4, ground := Ground.data } (by simp) rfl) rfl
     have hq : ∀ v : Value, SqfB P gq_ gr bo io nb cb ni ci d bb FP HW Wd (lq.setIfInBounds 5 true) (aq.put (some 41) v) W := fun v => ⟨by rw [getD_set_neq (i := 5) (j := 10) (by decide)]; exact hs.1, by rw [getD_set_neq (i := 5) (j := 10) (by decide), getD_set_neq (i := 5) (j := 3) (by decide)]; exact hs.2.1, by rw [getD_set_neq (i := 5) (j := 10) (by decide)]; exact hs.2.2⟩
     clear hWe
     have hK := fun (v : Value) (W2 : World) hW hT hv (hs : SqfB P gq_ gr bo io nb cb ni ci d bb FP HW Wd (lq.setIfInBounds 5 true) (aq.put (some 41) v) W2) => show (JqfB P gq_ gr bo io nb cb ni ci d bb FP HW Wd w0 a0) (lq.setIfInBounds 5 true) (aq.put (some 41) v) W2 from ⟨hJ2.put hS 5 41 rfl (by omega) (W' := W2) hW hT v hv, hs⟩
     clear ho hall hl hQ
     generalize (JqfB P gq_ gr bo io nb cb ni ci d bb FP HW Wd w0 a0) (lq.setIfInBounds 5 true) = K at hK ⊢
     clear hJ2 hS z1 z2 z3 z4 z6 z7
     go_simp
     exact hK _ _ z5 (fun _ _ h => h) rfl (hq _)
   | 6, ho =>
     cases ho
     refine wpOp_of rfl rfl ?_
     have hq : ∀ v : Value, SqfB P gq_ gr bo io nb cb ni ci d bb FP HW Wd (lq.setIfInBounds 6 true) (aq.put (some 42) v) W := fun v => ⟨by rw [getD_set_neq (i := 6) (j := 10) (by decide)]; exact hs.1, by rw [getD_set_neq (i := 6) (j := 10) (by decide), getD_set_neq (i := 6) (j := 3) (by decide)]; exact hs.2.1, by rw [getD_set_neq (i := 6) (j := 10) (by decide)]; exact hs.2.2⟩
     clear hWe
     have hK := fun (v : Value) (W2 : World) hW hT hv (hs : SqfB P gq_ gr bo io nb cb ni ci d bb FP HW Wd (lq.setIfInBounds 6 true) (aq.put (some 42) v) W2) => show (JqfB P gq_ gr bo io nb cb ni ci d bb FP HW Wd w0 a0) (lq.setIfInBounds 6 true) (aq.put (some 42) v) W2 from ⟨hJ2.put hS 6 42 rfl (by omega) (W' := W2) hW hT v hv, hs⟩
     clear ho hall hl hQ
     generalize (JqfB P gq_ gr bo io nb cb ni ci d bb FP HW Wd w0 a0) (lq.setIfInBounds 6 true) = K at hK ⊢
     clear hJ2 hS z1 z2 z3 z4 z6 z7
     go_simp
     exact hK _ _ z5 (fun _ _ h => h) rfl (hq _)
   | 7, ho =>
     cases ho
     refine wpOp_of rfl rfl ?_
     have f6 : (aq.tmps.getD 42 undef) = .pointer (some ⟨P, 2, none⟩) := z6 6 42 (hall { on := 6, ground := Ground.data } (by simp) rfl) rfl
     have hq : ∀ v : Value, SqfB P gq_ gr bo io nb cb ni ci d bb FP HW Wd (lq.setIfInBounds 7 true) (aq.put (some 43) v) W := fun v => ⟨by rw [getD_set_neq (i := 7) (j := 10) (by decide)]; exact hs.1, by rw [getD_set_neq (i := 7) (j := 10) (by decide), getD_set_neq (i := 7) (j := 3) (by decide)]; exact hs.2.1, by rw [getD_set_neq (i := 7) (j := 10) (by decide)]; exact hs.2.2⟩
     clear hWe
     have hK := fun (v : Value) (W2 : World) hW hT hv (hs : SqfB P gq_ gr bo io nb cb ni ci d bb FP HW Wd (lq.setIfInBounds 7 true) (aq.put (some 43) v) W2) => show (JqfB P gq_ gr bo io nb cb ni ci d bb FP HW Wd w0 a0) (lq.setIfInBounds 7 true) (aq.put (some 43) v) W2 from ⟨hJ2.put hS 7 43 rfl (by omega) (W' := W2) hW hT v hv, hs⟩
     clear ho hall hl hQ
     generalize (JqfB P gq_ gr bo io nb cb ni ci d bb FP HW Wd w0 a0) (lq.setIfInBounds 7 true) = K at hK ⊢
     clear hJ2 hS z1 z2 z3 z4 z6 z7
     go_simp
     exact hK _ _ z5 (fun _ _ h => h) rfl (hq _)
   | 8, ho =>
     cases ho
     refine wpOp_of rfl rfl ?_
     have hq : ∀ v : Value, SqfB P gq_ gr bo io nb cb ni ci d bb FP HW Wd (lq.setIfInBounds 8 true) (aq.put (some 44) v) W := fun v => ⟨by rw [getD_set_neq (i := 8) (j := 10) (by decide)]; exact hs.1, by rw [getD_set_neq (i := 8) (j := 10) (by decide), getD_set_neq (i := 8) (j := 3) (by decide)]; exact hs.2.1, by rw [getD_set_neq (i := 8) (j := 10) (by decide)]; exact hs.2.2⟩
     clear hWe
     have hK := fun (v : Value) (W2 : World) hW hT hv (hs : SqfB P gq_ gr bo io nb cb ni ci d bb FP HW Wd (lq.setIfInBounds 8 true) (aq.put (some 44) v) W2) => show (JqfB P gq_ gr bo io nb cb ni ci d bb FP HW Wd w0 a0) (lq.setIfInBounds 8 true) (aq.put (some 44) v) W2 from ⟨hJ2.put hS 8 44 rfl (by omega) (W' := W2) hW hT v hv, hs⟩
     clear ho hall hl hQ
     generalize (JqfB P gq_ gr bo io nb cb ni ci d bb FP HW Wd w0 a0) (lq.setIfInBounds 8 true) = K at hK ⊢
     clear hJ2 hS z1 z2 z3 z4 z6 z7
     go_simp
     exact hK _ _ z5 (fun _ _ h => h) rfl (hq _)
   | 9, ho =>
     cases ho
     refine wpOp_of rfl rfl ?_
     have f8 : (aq.tmps.getD 44 undef) = .pointer (some ⟨P, 1, none⟩) := z6 8 44 (hall { on := 8, ground := Ground.data } (by simp) rfl) rfl
     have hq : ∀ v : Value, SqfB P gq_ gr bo io nb cb ni ci d bb FP HW Wd (lq.setIfInBounds 9 true) (aq.put (some 45) v) W := fun v => ⟨by rw [getD_set_neq (i := 9) (j := 10) (by decide)]; exact hs.1, by rw [getD_set_neq (i := 9) (j := 10) (by decide), getD_set_neq (i := 9) (j := 3) (by decide)]; exact hs.2.1, by rw [getD_set_neq (i := 9) (j := 10) (by decide)]; exact hs.2.2⟩
     clear hWe
     have hK := fun (v : Value) (W2 : World) hW hT hv (hs : SqfB P gq_ gr bo io nb cb ni ci d bb FP HW Wd (lq.setIfInBounds 9 true) (aq.put (some 45) v) W2) => show (JqfB P gq_ gr bo io nb cb ni ci d bb FP HW Wd w0 a0) (lq.setIfInBounds 9 true) (aq.put (some 45) v) W2 from ⟨hJ2.put hS 9 45 rfl (by omega) (W' := W2) hW hT v hv, hs⟩
     clear ho hall hl hQ
     generalize (JqfB P gq_ gr bo io nb cb ni ci d bb FP HW Wd w0 a0) (lq.setIfInBounds 9 true) = K at hK ⊢
     clear hJ2 hS z1 z2 z3 z4 z6 z7
     go_simp
     exact hK _ _ z5 (fun _ _ h => h) rfl (hq _)
   | 10, ho =>
     cases ho
     refine wpOp_of rfl rfl ?_
     have f3 : (aq.tmps.getD 39 undef) = .pointer (some ⟨gr, 0, none⟩) := z6 3 39 (hall { on := 3, ground := Ground.data } (by simp) rfl) rfl
     have f5 : (aq.tmps.getD 41 undef) = .slice bo nb cb := z6 5 41 (hall { on := 5, ground := Ground.data } (by simp) rfl) rfl
     have f7 : (aq.tmps.getD 43 undef) = .slice io ni ci := z6 7 43 (hall { on := 7, ground := Ground.data } (by simp) rfl) rfl
     have f9 : (aq.tmps.getD 45 undef) = .int .i64 d := z6 9 45 (hall { on := 9, ground := Ground.data } (by simp) rfl) rfl
     have l3 := hall { on := 3, ground := Ground.data } (by simp) rfl
     have eW := hs.1 (getD_tf hl)
     have hq : ∀ (v : Value) (X : World), HW X → SqfB P gq_ gr bo io nb cb ni ci d bb FP HW Wd (lq.setIfInBounds 10 true) (aq.put (some 46) v) X := fun v X hX => ⟨(fun h => by rw [getD_set_eq hl] at h; cases h), (fun _ => by rw [getD_set_neq (i := 10) (j := 3) (by decide)]; exact l3), fun _ => hX⟩
     have hC := hRD
     rw [← eW] at hC
     clear eW hWe hs
     have hK := fun (v : Value) (W2 : World) hW hT hv (hs : SqfB P gq_ gr bo io nb cb ni ci d bb FP HW Wd (lq.setIfInBounds 10 true) (aq.put (some 46) v) W2) => show (JqfB P gq_ gr bo io nb cb ni ci d bb FP HW Wd w0 a0) (lq.setIfInBounds 10 true) (aq.put (some 46) v) W2 from ⟨hJ2.put hS 10 46 rfl (by omega) (W' := W2) hW hT v hv, hs⟩
     clear ho hall hl hQ
     generalize (JqfB P gq_ gr bo io nb cb ni ci d bb FP HW Wd w0 a0) (lq.setIfInBounds 10 true) = K at hK ⊢
     clear hJ2 hS z1 z2 z3 z4 z6 z7
     go_simp
     refine hC.mono ?_
     rintro r v1 ⟨rv, rfl, hF, hG, hH⟩
     exact hK _ _ (z5.grown hG (by have := z5.size; omega) (fun k hk => by have := Option.some.inj hk; omega)) (fun _ _ h => h.same) ⟨rv, rfl, hF⟩ (hq _ _ hH)
   | 11, ho =>
     cases ho
     refine wpOp_of rfl rfl ?_
     have f10 : ∃ rv, (aq.tmps.getD 46 undef) = .tuple #[rv, .bool bb] ∧ FP rv := z6 10 46 (hall { on := 10, ground := Ground.data } (by simp) rfl) rfl
     obtain ⟨rv, e10, hF⟩ := f10
     have hq : ∀ v : Value, SqfB P gq_ gr bo io nb cb ni ci d bb FP HW Wd (lq.setIfInBounds 11 true) (aq.put (some 35) v) W := fun v => ⟨by rw [getD_set_neq (i := 11) (j := 10) (by decide)]; exact hs.1, by rw [getD_set_neq (i := 11) (j := 10) (by decide), getD_set_neq (i := 11) (j := 3) (by decide)]; exact hs.2.1, by rw [getD_set_neq (i := 11) (j := 10) (by decide)]; exact hs.2.2⟩
     clear hWe
     rw [Array.getD_eq_getD_getElem?] at e10
     have hK := fun (v : Value) (W2 : World) hW hT hv (hs : SqfB P gq_ gr bo io nb cb ni ci d bb FP HW Wd (lq.setIfInBounds 11 true) (aq.put (some 35) v) W2) => show (JqfB P gq_ gr bo io nb cb ni ci d bb FP HW Wd w0 a0) (lq.setIfInBounds 11 true) (aq.put (some 35) v) W2 from ⟨hJ2.put hS 11 35 rfl (by omega) (W' := W2) hW hT v hv, hs⟩
     clear ho hall hl hQ
     generalize (JqfB P gq_ gr bo io nb cb ni ci d bb FP HW Wd w0 a0) (lq.setIfInBounds 11 true) = K at hK ⊢
     clear hJ2 hS z1 z2 z3 z4 z6 z7
     go_simp
     exact hK _ _ z5 (fun _ _ h => h) ⟨rv, rfl, hF⟩ (hq _)
   | 12, ho =>
     cases ho
     refine wpOp_of rfl rfl ?_
     have f11 : ∃ rv, (aq.tmps.getD 35 undef) = .tuple #[rv, .bool bb] ∧ FP rv := z6 11 35 (hall { on := 11, ground := Ground.data } (by simp) rfl) rfl
     obtain ⟨rv, e11, hF⟩ := f11
     have hq : ∀ v : Value, SqfB P gq_ gr bo io nb cb ni ci d bb FP HW Wd (lq.setIfInBounds 12 true) (aq.put (some 47) v) W := fun v => ⟨by rw [getD_set_neq (i := 12) (j := 10) (by decide)]; exact hs.1, by rw [getD_set_neq (i := 12) (j := 10) (by decide), getD_set_neq (i := 12) (j := 3) (by decide)]; exact hs.2.1, by rw [getD_set_neq (i := 12) (j := 10) (by decide)]; exact hs.2.2⟩
     clear hWe
     rw [Array.getD_eq_getD_getElem?] at e11
     have hK := fun (v : Value) (W2 : World) hW hT hv (hs : SqfB P gq_ gr bo io nb cb ni ci d bb FP HW Wd (lq.setIfInBounds 12 true) (aq.put (some 47) v) W2) => show (JqfB P gq_ gr bo io nb cb ni ci d bb FP HW Wd w0 a0) (lq.setIfInBounds 12 true) (aq.put (some 47) v) W2 from ⟨hJ2.put hS 12 47 rfl (by omega) (W' := W2) hW hT v hv, hs⟩
     clear ho hall hl hQ
     generalize (JqfB P gq_ gr bo io nb cb ni ci d bb FP HW Wd w0 a0) (lq.setIfInBounds 12 true) = K at hK ⊢
     clear hJ2 hS z1 z2 z3 z4 z6 z7
     go_simp
     exact hK _ _ z5 (fun _ _ h => h) hF (hq _)
   | 13, ho =>
     cases ho
     refine wpOp_of rfl rfl ?_
     have f11 : ∃ rv, (aq.tmps.getD 35 undef) = .tuple #[rv, .bool bb] ∧ FP rv := z6 11 35 (hall { on := 11, ground := Ground.data } (by simp) rfl) rfl
     obtain ⟨rv, e11, hF⟩ := f11
     have hq : ∀ v : Value, SqfB P gq_ gr bo io nb cb ni ci d bb FP HW Wd (lq.setIfInBounds 13 true) (aq.put (some 48) v) W := fun v => ⟨by rw [getD_set_neq (i := 13) (j := 10) (by decide)]; exact hs.1, by rw [getD_set_neq (i := 13) (j := 10) (by decide), getD_set_neq (i := 13) (j := 3) (by decide)]; exact hs.2.1, by rw [getD_set_neq (i := 13) (j := 10) (by decide)]; exact hs.2.2⟩
     clear hWe
     rw [Array.getD_eq_getD_getElem?] at e11
     have hK := fun (v : Value) (W2 : World) hW hT hv (hs : SqfB P gq_ gr bo io nb cb ni ci d bb FP HW Wd (lq.setIfInBounds 13 true) (aq.put (some 48) v) W2) => show (JqfB P gq_ gr bo io nb cb ni ci d bb FP HW Wd w0 a0) (lq.setIfInBounds 13 true) (aq.put (some 48) v) W2 from ⟨hJ2.put hS 13 48 rfl (by omega) (W' := W2) hW hT v hv, hs⟩
     clear ho hall hl hQ
     generalize (JqfB P gq_ gr bo io nb cb ni ci d bb FP HW Wd w0 a0) (lq.setIfInBounds 13 true) = K at hK ⊢
     clear hJ2 hS z1 z2 z3 z4 z6 z7
     go_simp
     exact hK _ _ z5 (fun _ _ h => h) rfl (hq _)
   | 14, ho =>
     cases ho
     refine wpOp_of rfl rfl ?_
     have f12 : FP (aq.tmps.getD 47 undef) := z6 12 47 (hall { on := 12, ground := Ground.data } (by simp) rfl) rfl
     have hq : ∀ v : Value, SqfB P gq_ gr bo io nb cb ni ci d bb FP HW Wd (lq.setIfInBounds 14 true) (aq.put (some 5) v) W := fun v => ⟨by rw [getD_set_neq (i := 14) (j := 10) (by decide)]; exact hs.1, by rw [getD_set_neq (i := 14) (j := 10) (by decide), getD_set_neq (i := 14) (j := 3) (by decide)]; exact hs.2.1, by rw [getD_set_neq (i := 14) (j := 10) (by decide)]; exact hs.2.2⟩
     clear hWe
     rw [Array.getD_eq_getD_getElem?] at f12
     have hK := fun (v : Value) (W2 : World) hW hT hv (hs : SqfB P gq_ gr bo io nb cb ni ci d bb FP HW Wd (lq.setIfInBounds 14 true) (aq.put (some 5) v) W2) => show (JqfB P gq_ gr bo io nb cb ni ci d bb FP HW Wd w0 a0) (lq.setIfInBounds 14 true) (aq.put (some 5) v) W2 from ⟨hJ2.put hS 14 5 rfl (by omega) (W' := W2) hW hT v hv, hs⟩
     clear ho hall hl hQ
     generalize (JqfB P gq_ gr bo io nb cb ni ci d bb FP HW Wd w0 a0) (lq.setIfInBounds 14 true) = K at hK ⊢
     clear hJ2 hS z1 z2 z3 z4 z6 z7
     go_simp
     exact hK _ _ z5 (fun _ _ h => h) f12 (hq _)
   | 15, ho =>
     cases ho
     refine wpOp_of rfl rfl ?_
     have f13 : (aq.tmps.getD 48 undef) = .bool bb := z6 13 48 (hall { on := 13, ground := Ground.data } (by simp) rfl) rfl
     have hq : ∀ v : Value, SqfB P gq_ gr bo io nb cb ni ci d bb FP HW Wd (lq.setIfInBounds 15 true) (aq.put (some 6) v) W := fun v => ⟨by rw [getD_set_neq (i := 15) (j := 10) (by decide)]; exact hs.1, by rw [getD_set_neq (i := 15) (j := 10) (by decide), getD_set_neq (i := 15) (j := 3) (by decide)]; exact hs.2.1, by rw [getD_set_neq (i := 15) (j := 10) (by decide)]; exact hs.2.2⟩
     clear hWe
     have hK := fun (v : Value) (W2 : World) hW hT hv (hs : SqfB P gq_ gr bo io nb cb ni ci d bb FP HW Wd (lq.setIfInBounds 15 true) (aq.put (some 6) v) W2) => show (JqfB P gq_ gr bo io nb cb ni ci d bb FP HW Wd w0 a0) (lq.setIfInBounds 15 true) (aq.put (some 6) v) W2 from ⟨hJ2.put hS 15 6 rfl (by omega) (W' := W2) hW hT v hv, hs⟩
     clear ho hall hl hQ
     generalize (JqfB P gq_ gr bo io nb cb ni ci d bb FP HW Wd w0 a0) (lq.setIfInBounds 15 true) = K at hK ⊢
     clear hJ2 hS z1 z2 z3 z4 z6 z7
     go_simp
     exact hK _ _ z5 (fun _ _ h => h) rfl (hq _)
   | iq + 16, ho => simp at ho
 · intro lq aq W ⟨hJ, hs⟩ hr
   obtain ⟨z1, z2, z3, z4, z5, z6, z7⟩ := hJ
   have hl := listed_of hr [0, 1, 2, 3, 4, 5, 6, 7, 8, 9, 10, 11, 12, 14, 13, 15] [] (by simp) (by kernel_rfl) (by rw [z1]; decide)
   exact hQ aq W z2 z3 (fun e he => z4 e (by simpa using he)) (z6 14 5 (hl 14 (by simp)) rfl) (z6 15 6 (hl 15 (by simp)) rfl) z5 (hs.2.2 (hl 10 (by simp)))
def qOk (Q : QD) (m d : Int) : Bool := limB m d && itsB Q && decide (Q.N ≤ 2000) && decide (qrd Q d.toNat 0 (-1048576) (-1048576) 2097152 = some Q.N)
theorem its6_of {Q : QD} (h : itsB Q = true) : Its6 Q (List.range Q.m) := fun i hi => by
 have h1 := (of_decide_eq_true h).2 i (List.mem_range.1 hi)
 have h2 := (of_decide_eq_true h1).2.1
 obtain ⟨s1, s2⟩ := spots_of_seg h2
 obtain ⟨a1, a2⟩ := in6_of_spot s1
 obtain ⟨a3, a4⟩ := in6_of_spot s2
 exact ⟨a1, a2, a3, a4⟩
def QuT (Q : QD) (b : Nat) (m d : Int) (pv : Value) (w : World) : Prop := ∃ gq io ic gr, pv = .pointer (some ⟨gq, 0, none⟩) ∧ Blk w gq [.int .i64 m, .int .i64 d, .slice io Q.m ic, .pointer (some ⟨gr, 0, none⟩)] ∧ ItIn Q w io (List.range Q.m) ∧ b ≤ gq ∧ STr (fun x => b ≤ x ∧ x ≠ gq ∧ ∀ c, (Value.slice io Q.m ic).ownBlock = some c → x ≠ c) w (trQ Q d.toNat 0 (-1048576) (-1048576) 2097152) (-1048576) (-1048576) 2097152 0 gr ∧ w.ownsRow b 56 5 (.slice io Q.m ic) Q.m (itCs Q (List.range Q.m)) ∧ ∀ c, (Value.slice io Q.m ic).ownBlock = some c → c ≠ gq
set_option maxRecDepth 100000 in
set_option maxHeartbeats 8000000 in
theorem quadOf_any (w : World) (Q : QD) (ao bo : Option Addr) (cap bcap A off : Nat) (so : Nat → Option Addr × Nat) (m d : Int) (hm : Q.m ≤ 1048576) (hN : Q.N ≤ 1048576) (hcap : Q.N ≤ bcap) (hL : ∀ i, i < Q.N → Q.L i ≤ 1048576) (hbo : 0 < Q.N → bo = some ⟨A, off, none⟩) (hao : ∀ A o sp, ao = some ⟨A, o, sp⟩ → A < w.heap.size) (hS : ItIn Q w ao (List.range Q.m)) (hBl : BlIn Q w A off so) : Calls Try.prog 21 #[.agg #[.int .i64 m, .int .i64 d, .slice ao Q.m cap, .slice bo Q.N bcap]] w (fun r w' => ∃ pv, r = .returned (.tuple #[pv, .bool (qOk Q m d)]) ∧ Below w.heap.size w w' ∧ (qOk Q m d = true → QuT Q w.heap.size m d pv w')) := by
 have B0 : Blk (w.alloc (.cells #[.int .i64 m, .int .i64 d, .slice ao Q.m cap, .slice bo Q.N bcap] 35)) w.heap.size [.int .i64 m, .int .i64 d, .slice ao Q.m cap, .slice bo Q.N bcap] := Blk.new w [.int .i64 m, .int .i64 d, .slice ao Q.m cap, .slice bo Q.N bcap] 35 rfl
 have HB : Below w.heap.size w (w.alloc (.cells #[.int .i64 m, .int .i64 d, .slice ao Q.m cap, .slice bo Q.N bcap] 35)) := (Below.refl _ w).alloc (Nat.le_refl _) _
 have CL := rightLimits_any m d
 have HS : Hid (ItIn Q w ao (List.range Q.m)) := hS
 clear hS
 obtain ⟨b1, hb1⟩ : ∃ b, limB m d = b := ⟨_, rfl⟩
 rw [hb1] at CL
 go_enter Try.func21, Try.ntmps21
 go_upto_region 1 with fail
 generalize (w.alloc (.cells #[.int .i64 m, .int .i64 d, .slice ao Q.m cap, .slice bo Q.N bcap] 35)) = W1 at *
 have c0 := B0.c 0 rfl; have c1 := B0.c 1 rfl; have c2 := B0.c 2 rfl; have c3 := B0.c 3 rfl
 go_wp2_with fail
 refine (CL _).mono ?_
 rintro r w1 ⟨rfl, hB1⟩
 replace B0 := B0.step hB1
 replace HB := HB.trans (hB1.mono HB.size)
 clear hB1 CL c0 c1 c2 c3
 cases b1 with
 | false =>
   clear HS hBl
   go_wp2
   refine bodyPost_ret (v := .tuple #[.pointer none, .bool false]) (by simp [results, Try.results21, go_sem]) rfl ?_
   exact ⟨_, by rw [show qOk Q m d = false from by unfold qOk; rw [hb1]; rfl], HB, fun h => by rw [show qOk Q m d = false from by unfold qOk; rw [hb1]; rfl] at h; cases h⟩
 | true =>
   have CI := rightItems_any Q ao cap w1 (HS.out.step HB)
   obtain ⟨b2, hb2⟩ : ∃ b, itsB Q = b := ⟨_, rfl⟩
   rw [hb2] at CI
   have c0 := B0.c 0 rfl; have c1 := B0.c 1 rfl; have c2 := B0.c 2 rfl; have c3 := B0.c 3 rfl
   go_wp2_with fail
   refine CI.mono ?_
   rintro r w2 ⟨rfl, hB1⟩
   replace B0 := B0.step hB1
   replace HB := HB.trans (hB1.mono HB.size)
   clear hB1 CI c0 c1 c2 c3
   cases b2 with
   | false =>
     clear HS hBl
     go_wp2
     refine bodyPost_ret (v := .tuple #[.pointer none, .bool false]) (by simp [results, Try.results21, go_sem]) rfl ?_
     exact ⟨_, by rw [show qOk Q m d = false from by unfold qOk; rw [hb1, hb2]; rfl], HB, fun h => by rw [show qOk Q m d = false from by unfold qOk; rw [hb1, hb2]; rfl] at h; cases h⟩
   | true =>
     have c0 := B0.c 0 rfl; have c1 := B0.c 1 rfl; have c2 := B0.c 2 rfl; have c3 := B0.c 3 rfl
     by_cases h2000 : 2000 < Q.N
     · have h2I : (2000 : Int) < Q.N := by omega
       clear HS hBl
       go_wp2
       refine bodyPost_ret (v := .tuple #[.pointer none, .bool false]) (by simp [results, Try.results21, go_sem]) rfl ?_
       exact ⟨_, by rw [show qOk Q m d = false from by unfold qOk; rw [hb1, hb2, decide_eq_false (by omega)]; rfl], HB, fun h => by rw [show qOk Q m d = false from by unfold qOk; rw [hb1, hb2, decide_eq_false (by omega)]; rfl] at h; cases h⟩
     · have h2I : (Q.N : Int) ≤ 2000 := by omega
       have hpl := B0.lt
       go_upto_region 3 with fail
       have hlr : (List.range Q.m).length = Q.m := List.length_range
       refine qfA (Qd := Q) (P := w.heap.size) (ao := ao) (cap := cap) (its := List.range Q.m) (m := m) (d := d) (by rw [hlr]; exact hm) (HS.out.step HB) rfl c0 hpl c1 hpl (by rw [hlr]; exact c2) hpl rfl ?_
       rintro ⟨tm, df⟩ Wz hz hdf hoff h4 hBz
       simp only at hz hdf hoff
       change QuB Q w2.heap.size (List.range Q.m) m d (tm.getD 4 undef) Wz at h4
       obtain ⟨gq, io, ic, gr, e4, BQ, hIR, hgr, hgrq, BR, hob⟩ := h4
       have HBz := HB.trans (hBz.mono HB.size)
       subst hdf
       have htm := tmps_fold [25, 26, 27, 28, 29, 30, 31, 32, 33, 34, 4] tm _ hz hoff
       simp only [List.foldl, List.setIfInBounds_toArray, List.set_cons_zero, List.set_cons_succ, e4] at htm
       clear hz hoff
       generalize tm.getD 25 undef = pz0, tm.getD 26 undef = pz1, tm.getD 27 undef = pz2, tm.getD 28 undef = pz3, tm.getD 29 undef = pz4, tm.getD 30 undef = pz5, tm.getD 31 undef = pz6, tm.getD 32 undef = pz7, tm.getD 33 undef = pz8, tm.getD 34 undef = pz9 at htm
       clear e4
       subst htm
       replace B0 := B0.step hBz
       replace HB := HB.trans (hBz.mono HB.size)
       have gl : gr < Wz.heap.size := BR.lt
       clear hBz c0 c1 c2 c3
       have hd8 : 0 ≤ d ∧ d ≤ 8 := by
         have h := hb1
         unfold limB at h
         simp at h
         omega
       obtain ⟨D, hDd⟩ : ∃ D : Nat, (D : Int) = d := ⟨d.toNat, by omega⟩
       have hDn : d.toNat = D := by omega
       have RD := read_any Q D A off bcap so w hN hcap (by omega) hBl hL (its6_of hb2) hm (D + 1) gr (-1048576) (-1048576) 2097152 0 0 (.slice bo Q.N bcap) ao cap (List.range Q.m) Wz.drew (by omega) (by omega) ⟨by omega, by omega, by omega, by omega, by omega⟩ BR.drew (by omega) HB.drew ⟨bo, rfl, fun h => by rw [hbo h]; simp⟩ (HS.out.step HB.drew) (fun A o sp e => by have := hao A o sp e; omega) (fun i hi => List.mem_range.1 hi) (by rw [hlr]; exact hm) rfl
       rw [hlr, hDd] at RD
       have RD2 : Calls Try.prog 44 #[.pointer (some ⟨gr, 0, none⟩), .slice bo Q.N bcap, .slice ao Q.m cap, .int .i64 d] Wz.drew (fun r w' => ∃ rv, r = .returned (.tuple #[rv, .bool (qrd Q D 0 (-1048576) (-1048576) 2097152).isSome]) ∧ (∀ e, qrd Q D 0 (-1048576) (-1048576) 2097152 = some e → e ≤ Q.N ∧ RowAt A off Q.N bcap e rv) ∧ Wz.drew.grownBy w' (some gr) ∧ (Wz.drew.grownBy w' (some gr) ∧ ∀ e, qrd Q D 0 (-1048576) (-1048576) 2097152 = some e → STr (okB gr Wz.drew.heap.size) w' (trQ Q D 0 (-1048576) (-1048576) 2097152) (-1048576) (-1048576) 2097152 0 gr)) := by
         refine RD.mono ?_
         rintro r w' ⟨v, b, rfl, rfl, hr, hg, hp⟩
         exact ⟨v, rfl, hr, hg, hg, hp⟩
       clear RD
       go_upto_region 4 with fail
       refine qfB (P := w.heap.size) (gq_ := gq) (gr := gr) (bo := bo) (io := ao) (nb := Q.N) (cb := bcap) (ni := Q.m) (ci := cap) (d := d) (bb := (qrd Q D 0 (-1048576) (-1048576) 2097152).isSome) (FP := fun v => ∀ e, qrd Q D 0 (-1048576) (-1048576) 2097152 = some e → e ≤ Q.N ∧ RowAt A off Q.N bcap e v) (HW := fun w' => (Wz.drew.grownBy w' (some gr) ∧ ∀ e, qrd Q D 0 (-1048576) (-1048576) 2097152 = some e → STr (okB gr Wz.drew.heap.size) w' (trQ Q D 0 (-1048576) (-1048576) 2097152) (-1048576) (-1048576) 2097152 0 gr)) (Wd := Wz.drew) gl (BQ.c 3 rfl) RD2 rfl rfl rfl (B0.c 3 rfl) (by show w.heap.size < gr; omega) (B0.c 2 rfl) (by show w.heap.size < gr; omega) (B0.c 1 rfl) (by show w.heap.size < gr; omega) rfl ?_
       rintro ⟨tm, df⟩ Wy hz hdf hoff h5 h6 hBy ⟨hgr5, hpt5⟩
       simp only at hz hdf hoff h6
       change ∀ e, qrd Q D 0 (-1048576) (-1048576) 2097152 = some e → e ≤ Q.N ∧ RowAt A off Q.N bcap e (tm.getD 5 undef) at h5
       change tm.getD 6 undef = .bool (qrd Q D 0 (-1048576) (-1048576) 2097152).isSome at h6
       subst hdf
       generalize hr5 : tm.getD 5 undef = rv at h5
       have htm := tmps_fold [36, 37, 38, 39, 40, 41, 42, 43, 44, 45, 46, 35, 47, 48, 5, 6] tm _ hz hoff
       simp only [List.foldl, List.setIfInBounds_toArray, List.set_cons_zero, List.set_cons_succ, hr5, h6] at htm
       clear hz hoff
       generalize tm.getD 36 undef = py0, tm.getD 37 undef = py1, tm.getD 38 undef = py2, tm.getD 39 undef = py3, tm.getD 40 undef = py4, tm.getD 41 undef = py5, tm.getD 42 undef = py6, tm.getD 43 undef = py7, tm.getD 44 undef = py8, tm.getD 45 undef = py9, tm.getD 46 undef = py10, tm.getD 35 undef = py11, tm.getD 47 undef = py12, tm.getD 48 undef = py13 at htm
       clear hr5 h6
       subst htm
       replace HB := HB.trans (hBy.mono (by omega))
       have hszz := HBz.size
       have HOW : Hid (Wy.ownsRow w2.heap.size 56 5 (.slice io (List.range Q.m).length ic) (List.range Q.m).length (itCs Q (List.range Q.m))) := by
         refine ownQ_heap (World.ownsRow.drew hIR) (fun k e => hgr5.block k ?_ ?_)
         · exact (World.ownsRow.lt hIR k e).2
         · intro e2; exact (hob k e).1 (Option.some.inj e2)
       have HIT : Hid (ItIn Q Wy io (List.range Q.m)) := by
         obtain ⟨io3, ic3, e3, hI3⟩ := ItIn.of HOW.out
         cases e3
         exact hI3
       have BQ5 := BQ.drew.grown hgr5 (fun e => by have := Option.some.inj e; omega)
       have HQT : Hid (qrd Q D 0 (-1048576) (-1048576) 2097152 = some Q.N → QuT Q w.heap.size m d (.pointer (some ⟨gq, 0, none⟩)) Wy) := fun he => by
         have HOW2 := HOW.out
         have hob2 := hob
         rw [List.length_range] at BQ5 HOW2 hob2
         refine ⟨gq, io, ic, gr, rfl, BQ5, HIT.out, by omega, ?_, ownB_mono HOW2 (by omega), fun c e => by have := (hob2 c e).2; omega⟩
         rw [hDn]
         refine STr.keep (Nat.le_refl _) (fun _ _ _ => rfl) (fun b hb _ => ?_) (hpt5 Q.N he)
         have hz9 : Wz.drew.heap.size = Wz.heap.size := rfl
         have hgq9 : gq < Wz.heap.size := BQ.lt
         refine ⟨?_, ?_, fun c e => ?_⟩
         · rcases hb with h | h <;> omega
         · rcases hb with h | h <;> omega
         · have h7 := hob2 c e
           rcases hb with h | h
           · rw [h]; exact fun e2 => h7.1 e2.symm
           · omega
       clear hBy RD2 BQ BR B0 HS hBl BQ5 HIT hIR hgr5 hpt5 hszz HOW hob
       have hqk : qOk Q m d = decide (qrd Q D 0 (-1048576) (-1048576) 2097152 = some Q.N) := by
         unfold qOk
         rw [hb1, hb2, hDn, decide_eq_true (show Q.N ≤ 2000 by omega)]
         rfl
       cases hqr : qrd Q D 0 (-1048576) (-1048576) 2097152 with
       | none =>
         rw [hqr] at hqk
         have hk2 : Hid (qOk Q m d = false) := by show _ = _; rw [hqk]; rfl
         clear hqk
         go_wp2
         refine bodyPost_ret (v := .tuple #[.pointer none, .bool false]) (by simp [results, Try.results21, go_sem]) rfl ?_
         exact ⟨_, by rw [hk2.out], HB, fun h => by rw [hk2.out] at h; cases h⟩
       | some e =>
         obtain ⟨he, ad, rfl, _⟩ := h5 e hqr
         rw [hqr] at hqk
         clear h5
         by_cases hen : e = Q.N
         · subst hen
           rw [Nat.sub_self]
           have hk2 : Hid (qOk Q m d = true) := by show _ = _; rw [hqk]; simp
           clear hqk
           go_wp2
           refine bodyPost_ret (v := .tuple #[.pointer (some ⟨gq, 0, none⟩), .bool true]) (by simp [results, Try.results21, go_sem]) rfl ?_
           exact ⟨_, by rw [hk2.out], HB, fun _ => HQT.out hqr⟩
         · obtain ⟨ln, hln⟩ : ∃ ln, Q.N - e = ln := ⟨_, rfl⟩
           rw [hln]
           have hlI : (0 : Int) < ln := by omega
           have hk2 : Hid (qOk Q m d = false) := by show _ = _; rw [hqk]; exact decide_eq_false (fun h => hen (Option.some.inj h))
           clear hln hqk
           go_wp2
           refine bodyPost_ret (v := .tuple #[.pointer none, .bool false]) (by simp [results, Try.results21, go_sem]) rfl ?_
           exact ⟨_, by rw [hk2.out], HB, fun h => by rw [hk2.out] at h; cases h⟩
set_option maxRecDepth 100000 in
set_option maxHeartbeats 4000000 in
theorem l13Meets_any (x y s : Int) (ko io : Option Addr) (kn kc in_ ic : Nat) (a b c d : Int) (hq : Sq x y s) (ia : In6 a) (ib : In6 b) (ic_ : In6 c) (id : In6 d) (w : World) : Calls Try.prog 55 #[.agg #[.int .i64 x, .int .i64 y, .int .i64 s, .slice ko kn kc, .slice io in_ ic], Sg a b c d] w (VP (.bool (hitB a b c d x y (x + s) (y + s))) w) := by
 have B0 : Blk ((w.alloc (.cells #[.int .i64 x, .int .i64 y, .int .i64 s, .slice ko kn kc, .slice io in_ ic] 48)).alloc (.cells #[.int .i64 a, .int .i64 b, .int .i64 c, .int .i64 d] 54)) w.heap.size [.int .i64 x, .int .i64 y, .int .i64 s, .slice ko kn kc, .slice io in_ ic] := (Blk.new w [.int .i64 x, .int .i64 y, .int .i64 s, .slice ko kn kc, .slice io in_ ic] 48 rfl).alloc _
 have B1 : Blk ((w.alloc (.cells #[.int .i64 x, .int .i64 y, .int .i64 s, .slice ko kn kc, .slice io in_ ic] 48)).alloc (.cells #[.int .i64 a, .int .i64 b, .int .i64 c, .int .i64 d] 54)) (w.heap.size + 1) [.int .i64 a, .int .i64 b, .int .i64 c, .int .i64 d] := Blk.new (w.alloc (.cells #[.int .i64 x, .int .i64 y, .int .i64 s, .slice ko kn kc, .slice io in_ ic] 48)) [.int .i64 a, .int .i64 b, .int .i64 c, .int .i64 d] 54 (g := w.heap.size + 1) (by simp)
 have HB : Below w.heap.size w ((w.alloc (.cells #[.int .i64 x, .int .i64 y, .int .i64 s, .slice ko kn kc, .slice io in_ ic] 48)).alloc (.cells #[.int .i64 a, .int .i64 b, .int .i64 c, .int .i64 d] 54)) := ((Below.refl _ w).alloc (Nat.le_refl _) _).alloc (by simp) _
 obtain ⟨q1, q2, q3, q4⟩ := hq.in6
 have C := l4MeetsBox_any a b c d x y (x + s) (y + s) ia ib ic_ id q1 q2 q3 q4
 have t1 := hq.x1; have t2 := hq.y1; have t3 := hq.s1; have t4 := hq.x2; have t5 := hq.y2
 go_enter Try.func55, Try.ntmps55
 go_upto_region 1 with fail
 generalize ((w.alloc (.cells #[.int .i64 x, .int .i64 y, .int .i64 s, .slice ko kn kc, .slice io in_ ic] 48)).alloc (.cells #[.int .i64 a, .int .i64 b, .int .i64 c, .int .i64 d] 54)) = W1 at *
 have m0 := B0.c 0 rfl; have m1 := B0.c 1 rfl; have m2 := B0.c 2 rfl; have n0 := B1.c 0 rfl; have n1 := B1.c 1 rfl; have n2 := B1.c 2 rfl; have n3 := B1.c 3 rfl
 clear B0 B1 q1 q2 q3 q4 ia ib ic_ id hq
 go_wp2_with fail
 refine (C _).mono ?_
 rintro r w1 ⟨rfl, hB⟩
 have HB2 := HB.trans (hB.mono HB.size)
 clear C hB HB m0 m1 m2 n0 n1 n2 n3
 go_wp2
 go_ret
 exact ⟨rfl, HB2⟩
def VqlA (A off n cap c : Nat) (x y s : Int) (ko eo : Option Addr) (kn kc en ec : Nat) (a bb cc d : Int) (_B : Nat) : Nat → Value → World → Prop
 | 0, v, _ => v = .agg #[.int .i64 x, .int .i64 y, .int .i64 s, .slice ko kn kc, .slice eo en ec]
 | 1, v, _ => v = .slice (some ⟨A, off, none⟩) n cap
 | 2, v, _ => v = .int .i64 (c : Int)
 | 3, v, _ => v = .pointer (some ⟨A, off + c * 5, none⟩)
 | 4, v, _ => v = .pointer (some ⟨A, off + c * 5 + 1, none⟩)
 | 5, v, _ => v = Sg a bb cc d
 | 6, v, _ => v = .bool (hitB a bb cc d x y (x + s) (y + s))
 | 7, v, _ => v = .bool (!hitB a bb cc d x y (x + s) (y + s))
 | _, _, _ => True
theorem VqlA.mono {A off n cap c : Nat} {x y s : Int} {ko eo : Option Addr} {kn kc en ec : Nat} {a bb cc d : Int} {B j : Nat} {v : Value} {W W2 : World} (_hB : Below W.heap.size W W2) (h : VqlA A off n cap c x y s ko eo kn kc en ec a bb cc d B j v W) : VqlA A off n cap c x y s ko eo kn kc en ec a bb cc d B j v W2 := by
 unfold VqlA at *
 split <;> simp only at h <;> first | exact h | trivial
set_option maxRecDepth 100000 in
set_option maxHeartbeats 4000000 in
theorem qlA {Q : Exit → Act → World → Prop} {A off n cap c : Nat} {x y s : Int} {ko eo : Option Addr} {kn kc en ec : Nat} {a bb cc d : Int} {F : Nat} {w0 : World} {a0 : Act} {idq : Nat} {t0 t1 t2 t3 t4 t5 t6 t7 : TypeId} {q0 q1 q2 q3 q4 q5 q6 q7 : String}
   (hcn : c < n) (hn : n ≤ 1048576) (hq : Sq x y s) (ia : In6 a) (ibb : In6 bb) (icc : In6 cc) (id : In6 d) (h1 : a0.tmps[1]? = some (.slice (some ⟨A, off, none⟩) n cap)) (h2 : a0.tmps[2]? = some (.pointer (some ⟨F, 0, none⟩))) (h7 : a0.tmps[7]? = some (.int .i64 (c : Int))) (k0 : w0.cell? ⟨F, 0, none⟩ = some (.int .i64 x)) (l0 : (⟨F, 0, none⟩ : Addr).block < w0.heap.size) (k1 : w0.cell? ⟨F, 1, none⟩ = some (.int .i64 y)) (l1 : (⟨F, 1, none⟩ : Addr).block < w0.heap.size) (k2 : w0.cell? ⟨F, 2, none⟩ = some (.int .i64 s)) (l2 : (⟨F, 2, none⟩ : Addr).block < w0.heap.size) (k3 : w0.cell? ⟨F, 3, none⟩ = some (.slice ko kn kc)) (l3 : (⟨F, 3, none⟩ : Addr).block < w0.heap.size) (k4 : w0.cell? ⟨F, 4, none⟩ = some (.slice eo en ec)) (l4 : (⟨F, 4, none⟩ : Addr).block < w0.heap.size) (k5 : w0.cell? ⟨A, off + c * 5 + 1, none⟩ = some (.int .i64 a)) (l5 : (⟨A, off + c * 5 + 1, none⟩ : Addr).block < w0.heap.size) (k6 : w0.cell? ⟨A, off + c * 5 + 1 + 1, none⟩ = some (.int .i64 bb)) (l6 : (⟨A, off + c * 5 + 1 + 1, none⟩ : Addr).block < w0.heap.size) (k7 : w0.cell? ⟨A, off + c * 5 + 1 + 2, none⟩ = some (.int .i64 cc)) (l7 : (⟨A, off + c * 5 + 1 + 2, none⟩ : Addr).block < w0.heap.size) (k8 : w0.cell? ⟨A, off + c * 5 + 1 + 3, none⟩ = some (.int .i64 d)) (l8 : (⟨A, off + c * 5 + 1 + 3, none⟩ : Addr).block < w0.heap.size) (hz : a0.tmps.size = 63)
   (hQ : ∀ aq W, aq.tmps.size = a0.tmps.size → aq.defers = a0.defers → (∀ e, e ∉ ([30, 31, 32, 33, 34, 35, 36, 37] : List Nat) → aq.tmps[e]? = a0.tmps[e]?) → VqlA A off n cap c x y s ko eo kn kc en ec a bb cc d w0.heap.size 7 (aq.tmps.getD 37 undef) W → Below w0.heap.size w0 W → Q .normal aq W) :
   (Code.region idq #[{ dst := some 30, op := Op.load 48 (Operand.tmp 2), type := t0, pos := q0, after := #[], guard := none },
   { dst := some 31, op := Op.move (Operand.tmp 1), type := t1, pos := q1, after := #[], guard := none },
   { dst := some 32, op := Op.move (Operand.tmp 7), type := t2, pos := q2, after := #[], guard := none },
   { dst := some 33, op := Op.indexAddr 32 (Operand.tmp 31) (Operand.tmp 32), type := t3, pos := q3, after := #[{ on := 1, ground := Ground.data }, { on := 2, ground := Ground.data }], guard := none },
   { dst := some 34, op := Op.fieldAddr 56 (Operand.tmp 33) 1, type := t4, pos := q4, after := #[{ on := 3, ground := Ground.data }], guard := none },
   { dst := some 35, op := Op.load 54 (Operand.tmp 34), type := t5, pos := q5, after := #[{ on := 4, ground := Ground.data }], guard := none },
   { dst := some 36, op := Op.call { callee := Callee.value (Operand.func 55), args := #[Operand.tmp 30, Operand.tmp 35], argTypes := #[48, 54] }, type := t6, pos := q6, after := #[{ on := 0, ground := Ground.data }, { on := 5, ground := Ground.data }], guard := none },
   { dst := some 37, op := Op.unOp UnOp.not 4 (Operand.tmp 36), type := t7, pos := q7, after := #[{ on := 6, ground := Ground.data }], guard := none }] true).wp Try.prog Q a0 w0 := by
 have hS : distS [some 30, some 31, some 32, some 33, some 34, some 35, some 36, some 37] = true := rfl
 refine wp_region_q (by kernel_rfl) w0.heap.size [some 30, some 31, some 32, some 33, some 34, some 35, some 36, some 37] (VqlA A off n cap c x y s ko eo kn kc en ec a bb cc d w0.heap.size) rfl ?_ ?_
 · intro Q lq aq W iq oq hJ hl ho hall
   have hJ2 := hJ
   obtain ⟨z1, z2, z3, z4, z5, z6, z7⟩ := hJ
   have g1 : aq.tmps.getD 1 undef = .slice (some ⟨A, off, none⟩) n cap := by rw [Array.getD_eq_getD_getElem?, z4 1 (by decide), h1]; rfl
   have g2 : aq.tmps.getD 2 undef = .pointer (some ⟨F, 0, none⟩) := by rw [Array.getD_eq_getD_getElem?, z4 2 (by decide), h2]; rfl
   have g7 : aq.tmps.getD 7 undef = .int .i64 (c : Int) := by rw [Array.getD_eq_getD_getElem?, z4 7 (by decide), h7]; rfl
   have c0 : W.cell? ⟨F, 0, none⟩ = some (.int .i64 x) := (z5.cell l0).trans k0
   have c1 : W.cell? ⟨F, 1, none⟩ = some (.int .i64 y) := (z5.cell l1).trans k1
   have c2 : W.cell? ⟨F, 2, none⟩ = some (.int .i64 s) := (z5.cell l2).trans k2
   have c3 : W.cell? ⟨F, 3, none⟩ = some (.slice ko kn kc) := (z5.cell l3).trans k3
   have c4 : W.cell? ⟨F, 4, none⟩ = some (.slice eo en ec) := (z5.cell l4).trans k4
   have c5 : W.cell? ⟨A, off + c * 5 + 1, none⟩ = some (.int .i64 a) := (z5.cell l5).trans k5
   have c6 : W.cell? ⟨A, off + c * 5 + 1 + 1, none⟩ = some (.int .i64 bb) := (z5.cell l6).trans k6
   have c7 : W.cell? ⟨A, off + c * 5 + 1 + 2, none⟩ = some (.int .i64 cc) := (z5.cell l7).trans k7
   have c8 : W.cell? ⟨A, off + c * 5 + 1 + 3, none⟩ = some (.int .i64 d) := (z5.cell l8).trans k8
   match iq, ho with
   | 0, ho =>
     cases ho
     refine wpOp_of rfl rfl ?_
     have hK := fun (v : Value) (W2 : World) hW hT hv => hJ2.put hS 0 30 rfl (by omega) (W' := W2) hW hT v hv
     clear ho hall hl hQ
     generalize InvQ _ _ _ w0 a0 (lq.setIfInBounds 0 true) = K at hK ⊢
     clear hJ2 hS z1 z2 z3 z4 z6 z7
     go_simp
     exact hK _ _ z5 (fun _ _ h => h) rfl
   | 1, ho =>
     cases ho
     refine wpOp_of rfl rfl ?_
     have hK := fun (v : Value) (W2 : World) hW hT hv => hJ2.put hS 1 31 rfl (by omega) (W' := W2) hW hT v hv
     clear ho hall hl hQ
     generalize InvQ _ _ _ w0 a0 (lq.setIfInBounds 1 true) = K at hK ⊢
     clear hJ2 hS z1 z2 z3 z4 z6 z7
     go_simp
     exact hK _ _ z5 (fun _ _ h => h) rfl
   | 2, ho =>
     cases ho
     refine wpOp_of rfl rfl ?_
     have hK := fun (v : Value) (W2 : World) hW hT hv => hJ2.put hS 2 32 rfl (by omega) (W' := W2) hW hT v hv
     clear ho hall hl hQ
     generalize InvQ _ _ _ w0 a0 (lq.setIfInBounds 2 true) = K at hK ⊢
     clear hJ2 hS z1 z2 z3 z4 z6 z7
     go_simp
     exact hK _ _ z5 (fun _ _ h => h) rfl
   | 3, ho =>
     cases ho
     refine wpOp_of rfl rfl ?_
     have f1 : (aq.tmps.getD 31 undef) = .slice (some ⟨A, off, none⟩) n cap := z6 1 31 (hall { on := 1, ground := Ground.data } (by simp) rfl) rfl
     have f2 : (aq.tmps.getD 32 undef) = .int .i64 (c : Int) := z6 2 32 (hall { on := 2, ground := Ground.data } (by simp) rfl) rfl
     have hcI : (c : Int) < n := by omega
     have hnI : (n : Int) ≤ 1048576 := by omega
     have hK := fun (v : Value) (W2 : World) hW hT hv => hJ2.put hS 3 33 rfl (by omega) (W' := W2) hW hT v hv
     clear ho hall hl hQ
     generalize InvQ _ _ _ w0 a0 (lq.setIfInBounds 3 true) = K at hK ⊢
     clear hJ2 hS z1 z2 z3 z4 z6 z7
     go_simp
     exact hK _ _ z5 (fun _ _ h => h) rfl
   | 4, ho =>
     cases ho
     refine wpOp_of rfl rfl ?_
     have f3 : (aq.tmps.getD 33 undef) = .pointer (some ⟨A, off + c * 5, none⟩) := z6 3 33 (hall { on := 3, ground := Ground.data } (by simp) rfl) rfl
     have hK := fun (v : Value) (W2 : World) hW hT hv => hJ2.put hS 4 34 rfl (by omega) (W' := W2) hW hT v hv
     clear ho hall hl hQ
     generalize InvQ _ _ _ w0 a0 (lq.setIfInBounds 4 true) = K at hK ⊢
     clear hJ2 hS z1 z2 z3 z4 z6 z7
     go_simp
     exact hK _ _ z5 (fun _ _ h => h) rfl
   | 5, ho =>
     cases ho
     refine wpOp_of rfl rfl ?_
     have f4 : (aq.tmps.getD 34 undef) = .pointer (some ⟨A, off + c * 5 + 1, none⟩) := z6 4 34 (hall { on := 4, ground := Ground.data } (by simp) rfl) rfl
     have hK := fun (v : Value) (W2 : World) hW hT hv => hJ2.put hS 5 35 rfl (by omega) (W' := W2) hW hT v hv
     clear ho hall hl hQ
     generalize InvQ _ _ _ w0 a0 (lq.setIfInBounds 5 true) = K at hK ⊢
     clear hJ2 hS z1 z2 z3 z4 z6 z7
     go_simp
     exact hK _ _ z5 (fun _ _ h => h) rfl
   | 6, ho =>
     cases ho
     refine wpOp_of rfl rfl ?_
     have f0 : (aq.tmps.getD 30 undef) = .agg #[.int .i64 x, .int .i64 y, .int .i64 s, .slice ko kn kc, .slice eo en ec] := z6 0 30 (hall { on := 0, ground := Ground.data } (by simp) rfl) rfl
     have f5 : (aq.tmps.getD 35 undef) = Sg a bb cc d := z6 5 35 (hall { on := 5, ground := Ground.data } (by simp) rfl) rfl
     have hK := fun (v : Value) (W2 : World) hW hT hv => hJ2.put hS 6 36 rfl (by omega) (W' := W2) hW hT v hv
     clear ho hall hl hQ
     generalize InvQ _ _ _ w0 a0 (lq.setIfInBounds 6 true) = K at hK ⊢
     clear hJ2 hS z1 z2 z3 z4 z6 z7
     go_simp
     refine (l13Meets_any x y s ko eo kn kc en ec a bb cc d hq ia ibb icc id W).mono ?_
     rintro e v1 ⟨rfl, hBv⟩
     exact hK _ _ (z5.trans (hBv.mono z5.size)) (fun j v h => h.mono hBv) rfl
   | 7, ho =>
     cases ho
     refine wpOp_of rfl rfl ?_
     have f6 : (aq.tmps.getD 36 undef) = .bool (hitB a bb cc d x y (x + s) (y + s)) := z6 6 36 (hall { on := 6, ground := Ground.data } (by simp) rfl) rfl
     have hK := fun (v : Value) (W2 : World) hW hT hv => hJ2.put hS 7 37 rfl (by omega) (W' := W2) hW hT v hv
     clear ho hall hl hQ
     generalize InvQ _ _ _ w0 a0 (lq.setIfInBounds 7 true) = K at hK ⊢
     clear hJ2 hS z1 z2 z3 z4 z6 z7
     go_simp
     exact hK _ _ z5 (fun _ _ h => h) rfl
   | iq + 8, ho => simp at ho
 · intro lq aq W hJ hr
   obtain ⟨z1, z2, z3, z4, z5, z6, z7⟩ := hJ
   have hl := listed_of hr [0, 1, 2, 3, 4, 5, 6, 7] [] (by simp) (by kernel_rfl) (by rw [z1]; decide)
   exact hQ aq W z2 z3 (fun e he => z4 e (by simpa using he)) (z6 7 37 (hl 7 (by simp)) rfl) z5
def VqlB (F k_ : Nat) (eo : Option Addr) (en ec : Nat) (_B : Nat) : Nat → Value → World → Prop
 | 0, v, _ => v = .int .i64 (k_ : Int)
 | 1, v, _ => v = .pointer (some ⟨F, 4, none⟩)
 | 2, v, _ => v = .slice eo en ec
 | 3, v, _ => v = .int .i64 (en : Int)
 | 4, v, _ => v = .bool true
 | 5, v, _ => v = .bool true
 | 6, v, _ => v = undef
 | 7, v, _ => v = undef
 | 8, v, _ => v = undef
 | 9, v, _ => v = undef
 | 10, v, _ => v = undef
 | 11, v, _ => v = undef
 | 12, v, _ => v = undef
 | 13, v, _ => v = undef
 | 14, v, _ => v = undef
 | 15, v, _ => v = undef
 | 16, v, _ => v = undef
 | 17, v, _ => v = .bool true
 | _, _, _ => True
set_option maxRecDepth 100000 in
set_option maxHeartbeats 4000000 in
theorem qlB {Q : Exit → Act → World → Prop} {F k_ : Nat} {eo : Option Addr} {en ec : Nat}  {w0 : World} {a0 : Act} {idq : Nat} {t0 t1 t2 t3 t4 t5 t6 t7 t8 t9 t10 t11 t12 t13 t14 t15 t16 t17 : TypeId} {q0 q1 q2 q3 q4 q5 q6 q7 q8 q9 q10 q11 q12 q13 q14 q15 q16 q17 : String}
   (hk : en ≤ k_) (h2 : a0.tmps[2]? = some (.pointer (some ⟨F, 0, none⟩))) (h6 : a0.tmps[6]? = some (.int .i64 (k_ : Int))) (k0 : w0.cell? ⟨F, 4, none⟩ = some (.slice eo en ec)) (l0 : (⟨F, 4, none⟩ : Addr).block < w0.heap.size) (hz : a0.tmps.size = 63)
   (hQ : ∀ aq W, aq.tmps.size = a0.tmps.size → aq.defers = a0.defers → (∀ e, e ∉ ([38, 39, 40, 41, 42, 43, 44, 45, 46, 47, 48, 49, 50, 51, 52, 53, 54, 55] : List Nat) → aq.tmps[e]? = a0.tmps[e]?) → VqlB F k_ eo en ec w0.heap.size 17 (aq.tmps.getD 55 undef) W → Below w0.heap.size w0 W → Q .normal aq W) :
   (Code.region idq #[{ dst := some 38, op := Op.move (Operand.tmp 6), type := t0, pos := q0, after := #[], guard := none },
   { dst := some 39, op := Op.fieldAddr 48 (Operand.tmp 2) 4, type := t1, pos := q1, after := #[], guard := none },
   { dst := some 40, op := Op.load 29 (Operand.tmp 39), type := t2, pos := q2, after := #[{ on := 1, ground := Ground.data }], guard := none },
   { dst := some 41, op := Op.call { callee := Callee.builtin Builtin.len, args := #[Operand.tmp 40], argTypes := #[29] }, type := t3, pos := q3, after := #[{ on := 2, ground := Ground.data }], guard := none },
   { dst := some 42, op := Op.binOp BinOp.geq 3 (Operand.tmp 38) (Operand.tmp 41) 3, type := t4, pos := q4, after := #[{ on := 0, ground := Ground.data }, { on := 3, ground := Ground.data }], guard := none },
   { dst := some 43, op := Op.move (Operand.tmp 42), type := t5, pos := q5, after := #[{ on := 4, ground := Ground.data }], guard := none },
   { dst := some 44, op := Op.fieldAddr 48 (Operand.tmp 2) 4, type := t6, pos := q6, after := #[{ on := 5, ground := Ground.guard }], guard := some (5, false) },
   { dst := some 45, op := Op.load 29 (Operand.tmp 44), type := t7, pos := q7, after := #[{ on := 6, ground := Ground.data }, { on := 5, ground := Ground.guard }], guard := some (5, false) },
   { dst := some 46, op := Op.move (Operand.tmp 6), type := t8, pos := q8, after := #[{ on := 5, ground := Ground.guard }], guard := some (5, false) },
   { dst := some 47, op := Op.indexAddr 29 (Operand.tmp 45) (Operand.tmp 46), type := t9, pos := q9, after := #[{ on := 7, ground := Ground.data }, { on := 8, ground := Ground.data }, { on := 5, ground := Ground.guard }], guard := some (5, false) },
   { dst := some 48, op := Op.load 2 (Operand.tmp 47), type := t10, pos := q10, after := #[{ on := 9, ground := Ground.data }, { on := 5, ground := Ground.guard }], guard := some (5, false) },
   { dst := some 49, op := Op.move (Operand.tmp 1), type := t11, pos := q11, after := #[{ on := 5, ground := Ground.guard }], guard := some (5, false) },
   { dst := some 50, op := Op.move (Operand.tmp 7), type := t12, pos := q12, after := #[{ on := 5, ground := Ground.guard }], guard := some (5, false) },
   { dst := some 51, op := Op.indexAddr 32 (Operand.tmp 49) (Operand.tmp 50), type := t13, pos := q13, after := #[{ on := 11, ground := Ground.data }, { on := 12, ground := Ground.data }, { on := 5, ground := Ground.guard }], guard := some (5, false) },
   { dst := some 52, op := Op.fieldAddr 56 (Operand.tmp 51) 0, type := t14, pos := q14, after := #[{ on := 13, ground := Ground.data }, { on := 5, ground := Ground.guard }], guard := some (5, false) },
   { dst := some 53, op := Op.load 2 (Operand.tmp 52), type := t15, pos := q15, after := #[{ on := 14, ground := Ground.data }, { on := 5, ground := Ground.guard }], guard := some (5, false) },
   { dst := some 54, op := Op.binOp BinOp.neq 2 (Operand.tmp 48) (Operand.tmp 53) 2, type := t16, pos := q16, after := #[{ on := 10, ground := Ground.data }, { on := 15, ground := Ground.data }, { on := 5, ground := Ground.guard }], guard := some (5, false) },
   { dst := some 55, op := Op.pick (Operand.tmp 43) (Operand.const (Value.bool true)) (Operand.tmp 54), type := t17, pos := q17, after := #[{ on := 5, ground := Ground.data }, { on := 16, ground := Ground.data }], guard := none }] true).wp Try.prog Q a0 w0 := by
 have hS : distS [some 38, some 39, some 40, some 41, some 42, some 43, some 44, some 45, some 46, some 47, some 48, some 49, some 50, some 51, some 52, some 53, some 54, some 55] = true := rfl
 refine wp_region_q (by kernel_rfl) w0.heap.size [some 38, some 39, some 40, some 41, some 42, some 43, some 44, some 45, some 46, some 47, some 48, some 49, some 50, some 51, some 52, some 53, some 54, some 55] (VqlB F k_ eo en ec w0.heap.size) rfl ?_ ?_
 · intro Q lq aq W iq oq hJ hl ho hall
   have hJ2 := hJ
   obtain ⟨z1, z2, z3, z4, z5, z6, z7⟩ := hJ
   have g2 : aq.tmps.getD 2 undef = .pointer (some ⟨F, 0, none⟩) := by rw [Array.getD_eq_getD_getElem?, z4 2 (by decide), h2]; rfl
   have g6 : aq.tmps.getD 6 undef = .int .i64 (k_ : Int) := by rw [Array.getD_eq_getD_getElem?, z4 6 (by decide), h6]; rfl
   have c0 : W.cell? ⟨F, 4, none⟩ = some (.slice eo en ec) := (z5.cell l0).trans k0
   match iq, ho with
   | 0, ho =>
     cases ho
     refine wpOp_of rfl rfl ?_
     have hK := fun (v : Value) (W2 : World) hW hT hv => hJ2.put hS 0 38 rfl (by omega) (W' := W2) hW hT v hv
     clear ho hall hl hQ
     generalize InvQ _ _ _ w0 a0 (lq.setIfInBounds 0 true) = K at hK ⊢
     clear hJ2 hS z1 z2 z3 z4 z6 z7
     go_simp
     exact hK _ _ z5 (fun _ _ h => h) rfl
   | 1, ho =>
     cases ho
     refine wpOp_of rfl rfl ?_
     have hK := fun (v : Value) (W2 : World) hW hT hv => hJ2.put hS 1 39 rfl (by omega) (W' := W2) hW hT v hv
     clear ho hall hl hQ
     generalize InvQ _ _ _ w0 a0 (lq.setIfInBounds 1 true) = K at hK ⊢
     clear hJ2 hS z1 z2 z3 z4 z6 z7
     go_simp
     exact hK _ _ z5 (fun _ _ h => h) rfl
   | 2, ho =>
     cases ho
     refine wpOp_of rfl rfl ?_
     have f1 : (aq.tmps.getD 39 undef) = .pointer (some ⟨F, 4, none⟩) := z6 1 39 (hall { on := 1, ground := Ground.data } (by simp) rfl) rfl
     have hK := fun (v : Value) (W2 : World) hW hT hv => hJ2.put hS 2 40 rfl (by omega) (W' := W2) hW hT v hv
     clear ho hall hl hQ
     generalize InvQ _ _ _ w0 a0 (lq.setIfInBounds 2 true) = K at hK ⊢
     clear hJ2 hS z1 z2 z3 z4 z6 z7
     go_simp
     exact hK _ _ z5 (fun _ _ h => h) rfl
   | 3, ho =>
     cases ho
     refine wpOp_of rfl rfl ?_
     have f2 : (aq.tmps.getD 40 undef) = .slice eo en ec := z6 2 40 (hall { on := 2, ground := Ground.data } (by simp) rfl) rfl
     have hK := fun (v : Value) (W2 : World) hW hT hv => hJ2.put hS 3 41 rfl (by omega) (W' := W2) hW hT v hv
     clear ho hall hl hQ
     generalize InvQ _ _ _ w0 a0 (lq.setIfInBounds 3 true) = K at hK ⊢
     clear hJ2 hS z1 z2 z3 z4 z6 z7
     go_simp
     exact hK _ _ z5 (fun _ _ h => h) rfl
   | 4, ho =>
     cases ho
     refine wpOp_of rfl rfl ?_
     have f0 : (aq.tmps.getD 38 undef) = .int .i64 (k_ : Int) := z6 0 38 (hall { on := 0, ground := Ground.data } (by simp) rfl) rfl
     have f3 : (aq.tmps.getD 41 undef) = .int .i64 (en : Int) := z6 3 41 (hall { on := 3, ground := Ground.data } (by simp) rfl) rfl
     have hgt : (en : Int) ≤ (k_ : Int) := by omega
     have hK := fun (v : Value) (W2 : World) hW hT hv => hJ2.put hS 4 42 rfl (by omega) (W' := W2) hW hT v hv
     clear ho hall hl hQ
     generalize InvQ _ _ _ w0 a0 (lq.setIfInBounds 4 true) = K at hK ⊢
     clear hJ2 hS z1 z2 z3 z4 z6 z7
     go_simp
     exact hK _ _ z5 (fun _ _ h => h) rfl
   | 5, ho =>
     cases ho
     refine wpOp_of rfl rfl ?_
     have f4 : (aq.tmps.getD 42 undef) = .bool true := z6 4 42 (hall { on := 4, ground := Ground.data } (by simp) rfl) rfl
     have hK := fun (v : Value) (W2 : World) hW hT hv => hJ2.put hS 5 43 rfl (by omega) (W' := W2) hW hT v hv
     clear ho hall hl hQ
     generalize InvQ _ _ _ w0 a0 (lq.setIfInBounds 5 true) = K at hK ⊢
     clear hJ2 hS z1 z2 z3 z4 z6 z7
     go_simp
     exact hK _ _ z5 (fun _ _ h => h) rfl
   | 6, ho =>
     cases ho
     have fg : aq.tmps.getD 43 undef = .bool true := z6 5 43 (hall { on := 5, ground := Ground.guard } (by simp) rfl) rfl
     refine wpOp_off rfl rfl rfl rfl fg ?_
     exact hJ2.put hS 6 44 rfl (by omega) z5 (fun _ _ h => h) undef rfl
   | 7, ho =>
     cases ho
     have fg : aq.tmps.getD 43 undef = .bool true := z6 5 43 (hall { on := 5, ground := Ground.guard } (by simp) rfl) rfl
     refine wpOp_off rfl rfl rfl rfl fg ?_
     exact hJ2.put hS 7 45 rfl (by omega) z5 (fun _ _ h => h) undef rfl
   | 8, ho =>
     cases ho
     have fg : aq.tmps.getD 43 undef = .bool true := z6 5 43 (hall { on := 5, ground := Ground.guard } (by simp) rfl) rfl
     refine wpOp_off rfl rfl rfl rfl fg ?_
     exact hJ2.put hS 8 46 rfl (by omega) z5 (fun _ _ h => h) undef rfl
   | 9, ho =>
     cases ho
     have fg : aq.tmps.getD 43 undef = .bool true := z6 5 43 (hall { on := 5, ground := Ground.guard } (by simp) rfl) rfl
     refine wpOp_off rfl rfl rfl rfl fg ?_
     exact hJ2.put hS 9 47 rfl (by omega) z5 (fun _ _ h => h) undef rfl
   | 10, ho =>
     cases ho
     have fg : aq.tmps.getD 43 undef = .bool true := z6 5 43 (hall { on := 5, ground := Ground.guard } (by simp) rfl) rfl
     refine wpOp_off rfl rfl rfl rfl fg ?_
     exact hJ2.put hS 10 48 rfl (by omega) z5 (fun _ _ h => h) undef rfl
   | 11, ho =>
     cases ho
     have fg : aq.tmps.getD 43 undef = .bool true := z6 5 43 (hall { on := 5, ground := Ground.guard } (by simp) rfl) rfl
     refine wpOp_off rfl rfl rfl rfl fg ?_
     exact hJ2.put hS 11 49 rfl (by omega) z5 (fun _ _ h => h) undef rfl
   | 12, ho =>
     cases ho
     have fg : aq.tmps.getD 43 undef = .bool true := z6 5 43 (hall { on := 5, ground := Ground.guard } (by simp) rfl) rfl
     refine wpOp_off rfl rfl rfl rfl fg ?_
     exact hJ2.put hS 12 50 rfl (by omega) z5 (fun _ _ h => h) undef rfl
   | 13, ho =>
     cases ho
     have fg : aq.tmps.getD 43 undef = .bool true := z6 5 43 (hall { on := 5, ground := Ground.guard } (by simp) rfl) rfl
     refine wpOp_off rfl rfl rfl rfl fg ?_
     exact hJ2.put hS 13 51 rfl (by omega) z5 (fun _ _ h => h) undef rfl
   | 14, ho =>
     cases ho
     have fg : aq.tmps.getD 43 undef = .bool true := z6 5 43 (hall { on := 5, ground := Ground.guard } (by simp) rfl) rfl
     refine wpOp_off rfl rfl rfl rfl fg ?_
     exact hJ2.put hS 14 52 rfl (by omega) z5 (fun _ _ h => h) undef rfl
   | 15, ho =>
     cases ho
     have fg : aq.tmps.getD 43 undef = .bool true := z6 5 43 (hall { on := 5, ground := Ground.guard } (by simp) rfl) rfl
     refine wpOp_off rfl rfl rfl rfl fg ?_
     exact hJ2.put hS 15 53 rfl (by omega) z5 (fun _ _ h => h) undef rfl
   | 16, ho =>
     cases ho
     have fg : aq.tmps.getD 43 undef = .bool true := z6 5 43 (hall { on := 5, ground := Ground.guard } (by simp) rfl) rfl
     refine wpOp_off rfl rfl rfl rfl fg ?_
     exact hJ2.put hS 16 54 rfl (by omega) z5 (fun _ _ h => h) undef rfl
   | 17, ho =>
     cases ho
     refine wpOp_of rfl rfl ?_
     have f5 : (aq.tmps.getD 43 undef) = .bool true := z6 5 43 (hall { on := 5, ground := Ground.data } (by simp) rfl) rfl
     have f16 : (aq.tmps.getD 54 undef) = undef := z6 16 54 (hall { on := 16, ground := Ground.data } (by simp) rfl) rfl
     have hK := fun (v : Value) (W2 : World) hW hT hv => hJ2.put hS 17 55 rfl (by omega) (W' := W2) hW hT v hv
     clear ho hall hl hQ
     generalize InvQ _ _ _ w0 a0 (lq.setIfInBounds 17 true) = K at hK ⊢
     clear hJ2 hS z1 z2 z3 z4 z6 z7
     go_simp
     exact hK _ _ z5 (fun _ _ h => h) rfl
   | iq + 18, ho => simp at ho
 · intro lq aq W hJ hr
   obtain ⟨z1, z2, z3, z4, z5, z6, z7⟩ := hJ
   have hl := listed_of hr [0, 1, 2, 3, 4, 5, 6, 7, 8, 9, 10, 11, 12, 13, 14, 15, 16, 17] [] (by simp) (by kernel_rfl) (by rw [z1]; decide)
   exact hQ aq W z2 z3 (fun e he => z4 e (by simpa using he)) (z6 17 55 (hl 17 (by simp)) rfl) z5
def VqlC (F A off n cap c k_ E0 eoff : Nat) (en ec : Nat) (ev iv : Int) (_B : Nat) : Nat → Value → World → Prop
 | 0, v, _ => v = .int .i64 (k_ : Int)
 | 1, v, _ => v = .pointer (some ⟨F, 4, none⟩)
 | 2, v, _ => v = .slice (some ⟨E0, eoff, none⟩) en ec
 | 3, v, _ => v = .int .i64 (en : Int)
 | 4, v, _ => v = .bool false
 | 5, v, _ => v = .bool false
 | 6, v, _ => v = .pointer (some ⟨F, 4, none⟩)
 | 7, v, _ => v = .slice (some ⟨E0, eoff, none⟩) en ec
 | 8, v, _ => v = .int .i64 (k_ : Int)
 | 9, v, _ => v = .pointer (some ⟨E0, eoff + k_, none⟩)
 | 10, v, _ => v = .int .i64 ev
 | 11, v, _ => v = .slice (some ⟨A, off, none⟩) n cap
 | 12, v, _ => v = .int .i64 (c : Int)
 | 13, v, _ => v = .pointer (some ⟨A, off + c * 5, none⟩)
 | 14, v, _ => v = .pointer (some ⟨A, off + c * 5, none⟩)
 | 15, v, _ => v = .int .i64 iv
 | 16, v, _ => v = .bool (decide (¬ (ev = iv)))
 | 17, v, _ => v = .bool (decide (¬ (ev = iv)))
 | _, _, _ => True
set_option maxRecDepth 100000 in
set_option maxHeartbeats 4000000 in
theorem qlC {Q : Exit → Act → World → Prop} {F A off n cap c k_ E0 eoff : Nat} {en ec : Nat} {ev iv : Int}  {w0 : World} {a0 : Act} {idq : Nat} {t0 t1 t2 t3 t4 t5 t6 t7 t8 t9 t10 t11 t12 t13 t14 t15 t16 t17 : TypeId} {q0 q1 q2 q3 q4 q5 q6 q7 q8 q9 q10 q11 q12 q13 q14 q15 q16 q17 : String}
   (hk : k_ < en) (hen : en ≤ 1048576) (hcn : c < n) (hn : n ≤ 1048576) (h1 : a0.tmps[1]? = some (.slice (some ⟨A, off, none⟩) n cap)) (h2 : a0.tmps[2]? = some (.pointer (some ⟨F, 0, none⟩))) (h6 : a0.tmps[6]? = some (.int .i64 (k_ : Int))) (h7 : a0.tmps[7]? = some (.int .i64 (c : Int))) (k0 : w0.cell? ⟨F, 4, none⟩ = some (.slice (some ⟨E0, eoff, none⟩) en ec)) (l0 : (⟨F, 4, none⟩ : Addr).block < w0.heap.size) (k1 : w0.cell? ⟨E0, eoff + k_, none⟩ = some (.int .i64 ev)) (l1 : (⟨E0, eoff + k_, none⟩ : Addr).block < w0.heap.size) (k2 : w0.cell? ⟨A, off + c * 5, none⟩ = some (.int .i64 iv)) (l2 : (⟨A, off + c * 5, none⟩ : Addr).block < w0.heap.size) (hz : a0.tmps.size = 63)
   (hQ : ∀ aq W, aq.tmps.size = a0.tmps.size → aq.defers = a0.defers → (∀ e, e ∉ ([38, 39, 40, 41, 42, 43, 44, 45, 46, 47, 48, 49, 50, 51, 52, 53, 54, 55] : List Nat) → aq.tmps[e]? = a0.tmps[e]?) → VqlC F A off n cap c k_ E0 eoff en ec ev iv w0.heap.size 17 (aq.tmps.getD 55 undef) W → Below w0.heap.size w0 W → Q .normal aq W) :
   (Code.region idq #[{ dst := some 38, op := Op.move (Operand.tmp 6), type := t0, pos := q0, after := #[], guard := none },
   { dst := some 39, op := Op.fieldAddr 48 (Operand.tmp 2) 4, type := t1, pos := q1, after := #[], guard := none },
   { dst := some 40, op := Op.load 29 (Operand.tmp 39), type := t2, pos := q2, after := #[{ on := 1, ground := Ground.data }], guard := none },
   { dst := some 41, op := Op.call { callee := Callee.builtin Builtin.len, args := #[Operand.tmp 40], argTypes := #[29] }, type := t3, pos := q3, after := #[{ on := 2, ground := Ground.data }], guard := none },
   { dst := some 42, op := Op.binOp BinOp.geq 3 (Operand.tmp 38) (Operand.tmp 41) 3, type := t4, pos := q4, after := #[{ on := 0, ground := Ground.data }, { on := 3, ground := Ground.data }], guard := none },
   { dst := some 43, op := Op.move (Operand.tmp 42), type := t5, pos := q5, after := #[{ on := 4, ground := Ground.data }], guard := none },
   { dst := some 44, op := Op.fieldAddr 48 (Operand.tmp 2) 4, type := t6, pos := q6, after := #[{ on := 5, ground := Ground.guard }], guard := some (5, false) },
   { dst := some 45, op := Op.load 29 (Operand.tmp 44), type := t7, pos := q7, after := #[{ on := 6, ground := Ground.data }, { on := 5, ground := Ground.guard }], guard := some (5, false) },
   { dst := some 46, op := Op.move (Operand.tmp 6), type := t8, pos := q8, after := #[{ on := 5, ground := Ground.guard }], guard := some (5, false) },
   { dst := some 47, op := Op.indexAddr 29 (Operand.tmp 45) (Operand.tmp 46), type := t9, pos := q9, after := #[{ on := 7, ground := Ground.data }, { on := 8, ground := Ground.data }, { on := 5, ground := Ground.guard }], guard := some (5, false) },
   { dst := some 48, op := Op.load 2 (Operand.tmp 47), type := t10, pos := q10, after := #[{ on := 9, ground := Ground.data }, { on := 5, ground := Ground.guard }], guard := some (5, false) },
   { dst := some 49, op := Op.move (Operand.tmp 1), type := t11, pos := q11, after := #[{ on := 5, ground := Ground.guard }], guard := some (5, false) },
   { dst := some 50, op := Op.move (Operand.tmp 7), type := t12, pos := q12, after := #[{ on := 5, ground := Ground.guard }], guard := some (5, false) },
   { dst := some 51, op := Op.indexAddr 32 (Operand.tmp 49) (Operand.tmp 50), type := t13, pos := q13, after := #[{ on := 11, ground := Ground.data }, { on := 12, ground := Ground.data }, { on := 5, ground := Ground.guard }], guard := some (5, false) },
   { dst := some 52, op := Op.fieldAddr 56 (Operand.tmp 51) 0, type := t14, pos := q14, after := #[{ on := 13, ground := Ground.data }, { on := 5, ground := Ground.guard }], guard := some (5, false) },
   { dst := some 53, op := Op.load 2 (Operand.tmp 52), type := t15, pos := q15, after := #[{ on := 14, ground := Ground.data }, { on := 5, ground := Ground.guard }], guard := some (5, false) },
   { dst := some 54, op := Op.binOp BinOp.neq 2 (Operand.tmp 48) (Operand.tmp 53) 2, type := t16, pos := q16, after := #[{ on := 10, ground := Ground.data }, { on := 15, ground := Ground.data }, { on := 5, ground := Ground.guard }], guard := some (5, false) },
   { dst := some 55, op := Op.pick (Operand.tmp 43) (Operand.const (Value.bool true)) (Operand.tmp 54), type := t17, pos := q17, after := #[{ on := 5, ground := Ground.data }, { on := 16, ground := Ground.data }], guard := none }] true).wp Try.prog Q a0 w0 := by
 have hS : distS [some 38, some 39, some 40, some 41, some 42, some 43, some 44, some 45, some 46, some 47, some 48, some 49, some 50, some 51, some 52, some 53, some 54, some 55] = true := rfl
 refine wp_region_q (by kernel_rfl) w0.heap.size [some 38, some 39, some 40, some 41, some 42, some 43, some 44, some 45, some 46, some 47, some 48, some 49, some 50, some 51, some 52, some 53, some 54, some 55] (VqlC F A off n cap c k_ E0 eoff en ec ev iv w0.heap.size) rfl ?_ ?_
 · intro Q lq aq W iq oq hJ hl ho hall
   have hJ2 := hJ
   obtain ⟨z1, z2, z3, z4, z5, z6, z7⟩ := hJ
   have g1 : aq.tmps.getD 1 undef = .slice (some ⟨A, off, none⟩) n cap := by rw [Array.getD_eq_getD_getElem?, z4 1 (by decide), h1]; rfl
   have g2 : aq.tmps.getD 2 undef = .pointer (some ⟨F, 0, none⟩) := by rw [Array.getD_eq_getD_getElem?, z4 2 (by decide), h2]; rfl
   have g6 : aq.tmps.getD 6 undef = .int .i64 (k_ : Int) := by rw [Array.getD_eq_getD_getElem?, z4 6 (by decide), h6]; rfl
   have g7 : aq.tmps.getD 7 undef = .int .i64 (c : Int) := by rw [Array.getD_eq_getD_getElem?, z4 7 (by decide), h7]; rfl
   have c0 : W.cell? ⟨F, 4, none⟩ = some (.slice (some ⟨E0, eoff, none⟩) en ec) := (z5.cell l0).trans k0
   have c1 : W.cell? ⟨E0, eoff + k_, none⟩ = some (.int .i64 ev) := (z5.cell l1).trans k1
   have c2 : W.cell? ⟨A, off + c * 5, none⟩ = some (.int .i64 iv) := (z5.cell l2).trans k2
   match iq, ho with
   | 0, ho =>
     cases ho
     refine wpOp_of rfl rfl ?_
     have hK := fun (v : Value) (W2 : World) hW hT hv => hJ2.put hS 0 38 rfl (by omega) (W' := W2) hW hT v hv
     clear ho hall hl hQ
     generalize InvQ _ _ _ w0 a0 (lq.setIfInBounds 0 true) = K at hK ⊢
     clear hJ2 hS z1 z2 z3 z4 z6 z7
     go_simp
     exact hK _ _ z5 (fun _ _ h => h) rfl
   | 1, ho =>
     cases ho
     refine wpOp_of rfl rfl ?_
     have hK := fun (v : Value) (W2 : World) hW hT hv => hJ2.put hS 1 39 rfl (by omega) (W' := W2) hW hT v hv
     clear ho hall hl hQ
     generalize InvQ _ _ _ w0 a0 (lq.setIfInBounds 1 true) = K at hK ⊢
     clear hJ2 hS z1 z2 z3 z4 z6 z7
     go_simp
     exact hK _ _ z5 (fun _ _ h => h) rfl
   | 2, ho =>
     cases ho
     refine wpOp_of rfl rfl ?_
     have f1 : (aq.tmps.getD 39 undef) = .pointer (some ⟨F, 4, none⟩) := z6 1 39 (hall { on := 1, ground := Ground.data } (by simp) rfl) rfl
     have hK := fun (v : Value) (W2 : World) hW hT hv => hJ2.put hS 2 40 rfl (by omega) (W' := W2) hW hT v hv
     clear ho hall hl hQ
     generalize InvQ _ _ _ w0 a0 (lq.setIfInBounds 2 true) = K at hK ⊢
     clear hJ2 hS z1 z2 z3 z4 z6 z7
     go_simp
     exact hK _ _ z5 (fun _ _ h => h) rfl
   | 3, ho =>
     cases ho
     refine wpOp_of rfl rfl ?_
     have f2 : (aq.tmps.getD 40 undef) = .slice (some ⟨E0, eoff, none⟩) en ec := z6 2 40 (hall { on := 2, ground := Ground.data } (by simp) rfl) rfl
     have hK := fun (v : Value) (W2 : World) hW hT hv => hJ2.put hS 3 41 rfl (by omega) (W' := W2) hW hT v hv
     clear ho hall hl hQ
     generalize InvQ _ _ _ w0 a0 (lq.setIfInBounds 3 true) = K at hK ⊢
     clear hJ2 hS z1 z2 z3 z4 z6 z7
     go_simp
     exact hK _ _ z5 (fun _ _ h => h) rfl
   | 4, ho =>
     cases ho
     refine wpOp_of rfl rfl ?_
     have f0 : (aq.tmps.getD 38 undef) = .int .i64 (k_ : Int) := z6 0 38 (hall { on := 0, ground := Ground.data } (by simp) rfl) rfl
     have f3 : (aq.tmps.getD 41 undef) = .int .i64 (en : Int) := z6 3 41 (hall { on := 3, ground := Ground.data } (by simp) rfl) rfl
     have hgt : (k_ : Int) < (en : Int) := by omega
     have hK := fun (v : Value) (W2 : World) hW hT hv => hJ2.put hS 4 42 rfl (by omega) (W' := W2) hW hT v hv
     clear ho hall hl hQ
     generalize InvQ _ _ _ w0 a0 (lq.setIfInBounds 4 true) = K at hK ⊢
     clear hJ2 hS z1 z2 z3 z4 z6 z7
     go_simp
     exact hK _ _ z5 (fun _ _ h => h) (by show _ = _; exact congrArg Value.bool (decide_eq_false (by omega)))
   | 5, ho =>
     cases ho
     refine wpOp_of rfl rfl ?_
     have f4 : (aq.tmps.getD 42 undef) = .bool false := z6 4 42 (hall { on := 4, ground := Ground.data } (by simp) rfl) rfl
     have hK := fun (v : Value) (W2 : World) hW hT hv => hJ2.put hS 5 43 rfl (by omega) (W' := W2) hW hT v hv
     clear ho hall hl hQ
     generalize InvQ _ _ _ w0 a0 (lq.setIfInBounds 5 true) = K at hK ⊢
     clear hJ2 hS z1 z2 z3 z4 z6 z7
     go_simp
     exact hK _ _ z5 (fun _ _ h => h) rfl
   | 6, ho =>
     cases ho
     have fg : aq.tmps.getD 43 undef = .bool false := z6 5 43 (hall { on := 5, ground := Ground.guard } (by simp) rfl) rfl
     refine wpOp_on rfl rfl rfl rfl fg ?_
     have hK := fun (v : Value) (W2 : World) hW hT hv => hJ2.put hS 6 44 rfl (by omega) (W' := W2) hW hT v hv
     clear ho hall hl hQ
     generalize InvQ _ _ _ w0 a0 (lq.setIfInBounds 6 true) = K at hK ⊢
     clear hJ2 hS z1 z2 z3 z4 z6 z7
     go_simp
     exact hK _ _ z5 (fun _ _ h => h) rfl
   | 7, ho =>
     cases ho
     have fg : aq.tmps.getD 43 undef = .bool false := z6 5 43 (hall { on := 5, ground := Ground.guard } (by simp) rfl) rfl
     refine wpOp_on rfl rfl rfl rfl fg ?_
     have f6 : (aq.tmps.getD 44 undef) = .pointer (some ⟨F, 4, none⟩) := z6 6 44 (hall { on := 6, ground := Ground.data } (by simp) rfl) rfl
     have hK := fun (v : Value) (W2 : World) hW hT hv => hJ2.put hS 7 45 rfl (by omega) (W' := W2) hW hT v hv
     clear ho hall hl hQ
     generalize InvQ _ _ _ w0 a0 (lq.setIfInBounds 7 true) = K at hK ⊢
     clear hJ2 hS z1 z2 z3 z4 z6 z7
     go_simp
     exact hK _ _ z5 (fun _ _ h => h) rfl
   | 8, ho =>
     cases ho
     have fg : aq.tmps.getD 43 undef = .bool false := z6 5 43 (hall { on := 5, ground := Ground.guard } (by simp) rfl) rfl
     refine wpOp_on rfl rfl rfl rfl fg ?_
     have hK := fun (v : Value) (W2 : World) hW hT hv => hJ2.put hS 8 46 rfl (by omega) (W' := W2) hW hT v hv
     clear ho hall hl hQ
     generalize InvQ _ _ _ w0 a0 (lq.setIfInBounds 8 true) = K at hK ⊢
     clear hJ2 hS z1 z2 z3 z4 z6 z7
     go_simp
     exact hK _ _ z5 (fun _ _ h => h) rfl
   | 9, ho =>
     cases ho
     have fg : aq.tmps.getD 43 undef = .bool false := z6 5 43 (hall { on := 5, ground := Ground.guard } (by simp) rfl) rfl
     refine wpOp_on rfl rfl rfl rfl fg ?_
     have f7 : (aq.tmps.getD 45 undef) = .slice (some ⟨E0, eoff, none⟩) en ec := z6 7 45 (hall { on := 7, ground := Ground.data } (by simp) rfl) rfl
     have f8 : (aq.tmps.getD 46 undef) = .int .i64 (k_ : Int) := z6 8 46 (hall { on := 8, ground := Ground.data } (by simp) rfl) rfl
     have hkI : (k_ : Int) < en := by omega
     have heI : (en : Int) ≤ 1048576 := by omega
     have hK := fun (v : Value) (W2 : World) hW hT hv => hJ2.put hS 9 47 rfl (by omega) (W' := W2) hW hT v hv
     clear ho hall hl hQ
     generalize InvQ _ _ _ w0 a0 (lq.setIfInBounds 9 true) = K at hK ⊢
     clear hJ2 hS z1 z2 z3 z4 z6 z7
     go_simp
     exact hK _ _ z5 (fun _ _ h => h) rfl
   | 10, ho =>
     cases ho
     have fg : aq.tmps.getD 43 undef = .bool false := z6 5 43 (hall { on := 5, ground := Ground.guard } (by simp) rfl) rfl
     refine wpOp_on rfl rfl rfl rfl fg ?_
     have f9 : (aq.tmps.getD 47 undef) = .pointer (some ⟨E0, eoff + k_, none⟩) := z6 9 47 (hall { on := 9, ground := Ground.data } (by simp) rfl) rfl
     have hK := fun (v : Value) (W2 : World) hW hT hv => hJ2.put hS 10 48 rfl (by omega) (W' := W2) hW hT v hv
     clear ho hall hl hQ
     generalize InvQ _ _ _ w0 a0 (lq.setIfInBounds 10 true) = K at hK ⊢
     clear hJ2 hS z1 z2 z3 z4 z6 z7
     go_simp
     exact hK _ _ z5 (fun _ _ h => h) rfl
   | 11, ho =>
     cases ho
     have fg : aq.tmps.getD 43 undef = .bool false := z6 5 43 (hall { on := 5, ground := Ground.guard } (by simp) rfl) rfl
     refine wpOp_on rfl rfl rfl rfl fg ?_
     have hK := fun (v : Value) (W2 : World) hW hT hv => hJ2.put hS 11 49 rfl (by omega) (W' := W2) hW hT v hv
     clear ho hall hl hQ
     generalize InvQ _ _ _ w0 a0 (lq.setIfInBounds 11 true) = K at hK ⊢
     clear hJ2 hS z1 z2 z3 z4 z6 z7
     go_simp
     exact hK _ _ z5 (fun _ _ h => h) rfl
   | 12, ho =>
     cases ho
     have fg : aq.tmps.getD 43 undef = .bool false := z6 5 43 (hall { on := 5, ground := Ground.guard } (by simp) rfl) rfl
     refine wpOp_on rfl rfl rfl rfl fg ?_
     have hK := fun (v : Value) (W2 : World) hW hT hv => hJ2.put hS 12 50 rfl (by omega) (W' := W2) hW hT v hv
     clear ho hall hl hQ
     generalize InvQ _ _ _ w0 a0 (lq.setIfInBounds 12 true) = K at hK ⊢
     clear hJ2 hS z1 z2 z3 z4 z6 z7
     go_simp
     exact hK _ _ z5 (fun _ _ h => h) rfl
   | 13, ho =>
     cases ho
     have fg : aq.tmps.getD 43 undef = .bool false := z6 5 43 (hall { on := 5, ground := Ground.guard } (by simp) rfl) rfl
     refine wpOp_on rfl rfl rfl rfl fg ?_
     have f11 : (aq.tmps.getD 49 undef) = .slice (some ⟨A, off, none⟩) n cap := z6 11 49 (hall { on := 11, ground := Ground.data } (by simp) rfl) rfl
     have f12 : (aq.tmps.getD 50 undef) = .int .i64 (c : Int) := z6 12 50 (hall { on := 12, ground := Ground.data } (by simp) rfl) rfl
     have hcI : (c : Int) < n := by omega
     have hnI : (n : Int) ≤ 1048576 := by omega
     have hK := fun (v : Value) (W2 : World) hW hT hv => hJ2.put hS 13 51 rfl (by omega) (W' := W2) hW hT v hv
     clear ho hall hl hQ
     generalize InvQ _ _ _ w0 a0 (lq.setIfInBounds 13 true) = K at hK ⊢
     clear hJ2 hS z1 z2 z3 z4 z6 z7
     go_simp
     exact hK _ _ z5 (fun _ _ h => h) rfl
   | 14, ho =>
     cases ho
     have fg : aq.tmps.getD 43 undef = .bool false := z6 5 43 (hall { on := 5, ground := Ground.guard } (by simp) rfl) rfl
     refine wpOp_on rfl rfl rfl rfl fg ?_
     have f13 : (aq.tmps.getD 51 undef) = .pointer (some ⟨A, off + c * 5, none⟩) := z6 13 51 (hall { on := 13, ground := Ground.data } (by simp) rfl) rfl
     have hK := fun (v : Value) (W2 : World) hW hT hv => hJ2.put hS 14 52 rfl (by omega) (W' := W2) hW hT v hv
     clear ho hall hl hQ
     generalize InvQ _ _ _ w0 a0 (lq.setIfInBounds 14 true) = K at hK ⊢
     clear hJ2 hS z1 z2 z3 z4 z6 z7
     go_simp
     exact hK _ _ z5 (fun _ _ h => h) rfl
   | 15, ho =>
     cases ho
     have fg : aq.tmps.getD 43 undef = .bool false := z6 5 43 (hall { on := 5, ground := Ground.guard } (by simp) rfl) rfl
     refine wpOp_on rfl rfl rfl rfl fg ?_
     have f14 : (aq.tmps.getD 52 undef) = .pointer (some ⟨A, off + c * 5, none⟩) := z6 14 52 (hall { on := 14, ground := Ground.data } (by simp) rfl) rfl
     have hK := fun (v : Value) (W2 : World) hW hT hv => hJ2.put hS 15 53 rfl (by omega) (W' := W2) hW hT v hv
     clear ho hall hl hQ
     generalize InvQ _ _ _ w0 a0 (lq.setIfInBounds 15 true) = K at hK ⊢
     clear hJ2 hS z1 z2 z3 z4 z6 z7
     go_simp
     exact hK _ _ z5 (fun _ _ h => h) rfl
   | 16, ho =>
     cases ho
     have fg : aq.tmps.getD 43 undef = .bool false := z6 5 43 (hall { on := 5, ground := Ground.guard } (by simp) rfl) rfl
     refine wpOp_on rfl rfl rfl rfl fg ?_
     have f10 : (aq.tmps.getD 48 undef) = .int .i64 ev := z6 10 48 (hall { on := 10, ground := Ground.data } (by simp) rfl) rfl
     have f15 : (aq.tmps.getD 53 undef) = .int .i64 iv := z6 15 53 (hall { on := 15, ground := Ground.data } (by simp) rfl) rfl
     have hK := fun (v : Value) (W2 : World) hW hT hv => hJ2.put hS 16 54 rfl (by omega) (W' := W2) hW hT v hv
     clear ho hall hl hQ
     generalize InvQ _ _ _ w0 a0 (lq.setIfInBounds 16 true) = K at hK ⊢
     clear hJ2 hS z1 z2 z3 z4 z6 z7
     go_simp
     exact hK _ _ z5 (fun _ _ h => h) (by show Value.bool _ = Value.bool _; congr 1; rw [Bool.eq_iff_iff]; simp)
   | 17, ho =>
     cases ho
     refine wpOp_of rfl rfl ?_
     have f5 : (aq.tmps.getD 43 undef) = .bool false := z6 5 43 (hall { on := 5, ground := Ground.data } (by simp) rfl) rfl
     have f16 : (aq.tmps.getD 54 undef) = .bool (decide (¬ (ev = iv))) := z6 16 54 (hall { on := 16, ground := Ground.data } (by simp) rfl) rfl
     have hK := fun (v : Value) (W2 : World) hW hT hv => hJ2.put hS 17 55 rfl (by omega) (W' := W2) hW hT v hv
     clear ho hall hl hQ
     generalize InvQ _ _ _ w0 a0 (lq.setIfInBounds 17 true) = K at hK ⊢
     clear hJ2 hS z1 z2 z3 z4 z6 z7
     go_simp
     exact hK _ _ z5 (fun _ _ h => h) (by show Value.bool _ = Value.bool _; congr 1; rw [Bool.eq_iff_iff]; simp)
   | iq + 18, ho => simp at ho
 · intro lq aq W hJ hr
   obtain ⟨z1, z2, z3, z4, z5, z6, z7⟩ := hJ
   have hl := listed_of hr [0, 1, 2, 3, 4, 5, 6, 7, 8, 9, 10, 11, 12, 13, 14, 15, 16, 17] [] (by simp) (by kernel_rfl) (by rw [z1]; decide)
   exact hQ aq W z2 z3 (fun e he => z4 e (by simpa using he)) (z6 17 55 (hl 17 (by simp)) rfl) z5
end Go.Proofs.Ythelolpogdcmhaa
