/- Part 5 of the walks that the proof leans on. -/
import Derived.Test.YtjcpdihdlklapaaDoorRl3
import Derived.Test.YtjcpdihdlklapaaDoorRl4
import Derived.Lib.AppendIntMem
import Derived.Maps.AppendAt
import Derived.Test.YtjcpdihdlklapaaDoorRl2
namespace Go.Proofs.YtjcpdihdlklapaaDoor
open Go.RowKit
theorem Tryd.infoStr : (Tryd.prog.info? 9).map (fun i => (i.zero, i.size, i.bytes)) = some (some (.string ⟨#[]⟩), 1, 16) := by kernel_rfl
def AccI (n iz dr : Nat) (o : Value) (lz : Array Bool) (az : Act) : Prop :=
 (lz.getD iz false = true → ∀ j, j < n → lz.getD j false = true) ∧ (lz.getD iz false = false → az.tmps.getD dr undef = o)
theorem AccI.start {n m iz dr : Nat} {o : Value} {az : Act} (h1 : az.tmps.getD dr undef = o) : AccI n iz dr o (Array.replicate m false) az :=
 ⟨(fun h => by rw [replD] at h; cases h), fun _ => h1⟩
theorem AccI.off {n iz dr : Nat} {o : Value} {lz : Array Bool} {az : Act} (h : AccI n iz dr o lz az) {i : Nat} (hi : i < n) (hl : lz.getD i true = false) : lz.getD iz false = false := by
 cases hh : lz.getD iz false with
 | false => rfl
 | true => have := h.1 hh i hi; rw [getD_tf hl] at this; cases this
theorem AccI.quiet {n iz dr : Nat} {o : Value} {lz : Array Bool} {az : Act} (h : AccI n iz dr o lz az) (i d : Nat) (v : Value) (hi : i < n) (hl : lz.getD i true = false) (h3 : i ≠ iz) (e1 : d ≠ dr) :
   AccI n iz dr o (lz.setIfInBounds i true) (az.put (some d) v) := by
 have hz := h.off hi hl
 obtain ⟨a1, a2⟩ := h
 unfold AccI
 rw [getD_set_neq h3, put_getD_ne e1]
 exact ⟨(fun h => by rw [hz] at h; cases h), a2⟩
theorem AccI.assigned {n iz dr : Nat} {o : Value} {lz : Array Bool} {az : Act} (hl : lz.getD iz true = false) (hall : ∀ j, j < n → j ≠ iz → lz.getD j false = true) (v : Value) :
   AccI n iz dr o (lz.setIfInBounds iz true) (az.put (some dr) v) := by
 refine ⟨fun _ j hj => ?_, fun h => by rw [getD_set_eq hl] at h; cases h⟩
 by_cases e : j = iz
 · subst e; exact getD_set_eq hl
 · rw [getD_set_neq (Ne.symm e)]; exact hall j hj e
theorem bA_size (l : List UInt8) : (bA l).size = l.length := by simp [bA, ByteArray.size]
theorem itoa_size {z : Int} (h : shB z = true) : (bA (Lib.itoa z)).size ≤ 16 := by
 rw [bA_size]
 exact itoa_len (of_decide_eq_true h)
theorem lyU_le {L : Nat → Nat} {q : Nat → Ps} : ∀ c, (∀ i, i < c → htB (L i) (q i) = true) → (lyU L q c).length ≤ smR L c * 34 + c * 3
 | 0, _ => by simp [lyU]
 | c + 1, h => by
   have h1 := lyU_le c fun i hi => h i (by omega)
   have h2 := rgU_le (htB_iff.1 (h c (by omega))).2
   have h3 : (lyU L q (c + 1)).length ≤ (lyU L q c).length + 3 + (rgU (q c) (L c)).length := by
     rw [lyU, List.length_append]
     split
     · simp
     · simp
   rw [smR]
   omega
theorem stU_le {L : Nat → Nat} {q : Nat → Ps} {c k : Nat} (h : ∀ i, i < c → htB (L i) (q i) = true) (hk : ∀ j, j < k → shB (q c j).1 = true ∧ shB (q c j).2 = true) : (stU L q c k).length ≤ smR L c * 34 + c * 3 + 3 + k * 34 := by
 have h1 := lyU_le c h
 have h2 := rgU_le hk
 unfold stU
 split
 · split <;> simp; omega
 · split <;> simp <;> omega
def VltE (P : Nat) (x y : Int) (s : List UInt8) (_B : Nat) : Nat → Value → World → Prop
 | 0, v, _ => v = .string (bA s)
 | 1, v, _ => v = .pointer (some ⟨P, 0, none⟩)
 | 2, v, _ => v = .int .i64 x
 | 3, v, _ => v = .string (bA (Lib.itoa x))
 | 4, v, _ => v = .string (bA s ++ bA (Lib.itoa x))
 | 5, v, _ => v = .string (bA s ++ bA (Lib.itoa x) ++ ⟨#[32]⟩)
 | 6, v, _ => v = .pointer (some ⟨P, 1, none⟩)
 | 7, v, _ => v = .int .i64 y
 | 8, v, _ => v = .string (bA (Lib.itoa y))
 | 9, v, _ => v = .string (bA s ++ bA (Lib.itoa x) ++ ⟨#[32]⟩ ++ bA (Lib.itoa y))
 | 10, v, _ => v = .string (bA s ++ bA (Lib.itoa x) ++ ⟨#[32]⟩ ++ bA (Lib.itoa y))
 | _, _, _ => True
theorem VltE.mono {P : Nat} {x y : Int} {s : List UInt8} {B j : Nat} {v : Value} {W W2 : World} (_hB : Below W.heap.size W W2) (h : VltE P x y s B j v W) : VltE P x y s B j v W2 := by
 unfold VltE at *
 split <;> simp only at h <;> first | exact h | trivial
def SltE (_P : Nat) (_x _y : Int) (s : List UInt8) (lz : Array Bool) (az : Act) (_W : World) : Prop := AccI 11 10 3 (.string (bA s)) lz az
def JltE (P : Nat) (x y : Int) (s : List UInt8) (w0 : World) (a0 : Act) (lz : Array Bool) (az : Act) (W : World) : Prop := InvQ (w0.heap.size) [some 75, some 76, some 77, some 78, some 79, some 80, some 81, some 82, some 83, some 84, some 3] (VltE P x y s (w0.heap.size)) w0 a0 lz az W ∧ SltE P x y s lz az W
set_option maxRecDepth 100000 in
set_option maxHeartbeats 4000000 in
theorem ltE {Q : Exit → Act → World → Prop} {P : Nat} {x y : Int} {s : List UInt8}  {w0 : World} {a0 : Act} {idq : Nat} {t0 t1 t2 t3 t4 t5 t6 t7 t8 t9 t10 : TypeId} {q0 q1 q2 q3 q4 q5 q6 q7 q8 q9 q10 : String}
   (hx : shB x = true) (hy : shB y = true) (hs9 : (bA s).size ≤ 2000) (hr : a0.tmps.getD 3 undef = .string (bA s)) (h7 : a0.tmps[7]? = some (.pointer (some ⟨P, 0, none⟩))) (k0 : w0.cell? ⟨P, 0, none⟩ = some (.int .i64 x)) (l0 : (⟨P, 0, none⟩ : Addr).block < w0.heap.size) (k1 : w0.cell? ⟨P, 1, none⟩ = some (.int .i64 y)) (l1 : (⟨P, 1, none⟩ : Addr).block < w0.heap.size) (hz : a0.tmps.size = 86)
   (hQ : ∀ aq W, aq.tmps.size = a0.tmps.size → aq.defers = a0.defers → (∀ e, e ∉ ([75, 76, 77, 78, 79, 80, 81, 82, 83, 84, 3] : List Nat) → aq.tmps[e]? = a0.tmps[e]?) → VltE P x y s (w0.heap.size) 10 (aq.tmps.getD 3 undef) W → Below (w0.heap.size) w0 W → (True) → Q .normal aq W) :
   (Code.region idq #[{ dst := some 75, op := Op.move (Operand.tmp 3), type := t0, pos := q0, after := #[], guard := none },
   { dst := some 76, op := Op.fieldAddr 41 (Operand.tmp 7) 0, type := t1, pos := q1, after := #[], guard := none },
   { dst := some 77, op := Op.load 2 (Operand.tmp 76), type := t2, pos := q2, after := #[{ on := 1, ground := Ground.data }], guard := none },
   { dst := some 78, op := Op.call { callee := Callee.value (Operand.func 16), args := #[Operand.tmp 77], argTypes := #[2] }, type := t3, pos := q3, after := #[{ on := 2, ground := Ground.data }], guard := none },
   { dst := some 79, op := Op.binOp BinOp.add 9 (Operand.tmp 75) (Operand.tmp 78) 9, type := t4, pos := q4, after := #[{ on := 0, ground := Ground.data }, { on := 3, ground := Ground.data }], guard := none },
   { dst := some 80, op := Op.binOp BinOp.add 9 (Operand.tmp 79) (Operand.const (Value.string { data := #[32] })) 9, type := t5, pos := q5, after := #[{ on := 4, ground := Ground.data }], guard := none },
   { dst := some 81, op := Op.fieldAddr 41 (Operand.tmp 7) 1, type := t6, pos := q6, after := #[], guard := none },
   { dst := some 82, op := Op.load 2 (Operand.tmp 81), type := t7, pos := q7, after := #[{ on := 6, ground := Ground.data }], guard := none },
   { dst := some 83, op := Op.call { callee := Callee.value (Operand.func 16), args := #[Operand.tmp 82], argTypes := #[2] }, type := t8, pos := q8, after := #[{ on := 7, ground := Ground.data }, { on := 3, ground := Ground.chain }], guard := none },
   { dst := some 84, op := Op.binOp BinOp.add 9 (Operand.tmp 80) (Operand.tmp 83) 9, type := t9, pos := q9, after := #[{ on := 5, ground := Ground.data }, { on := 8, ground := Ground.data }], guard := none },
   { dst := some 3, op := Op.assign (Operand.tmp 84), type := t10, pos := q10, after := #[{ on := 9, ground := Ground.data }, { on := 8, ground := Ground.chain }, { on := 0, ground := Ground.phase }, { on := 1, ground := Ground.phase }, { on := 2, ground := Ground.phase }, { on := 3, ground := Ground.phase }, { on := 4, ground := Ground.phase }, { on := 5, ground := Ground.phase }, { on := 6, ground := Ground.phase }, { on := 7, ground := Ground.phase }, { on := 8, ground := Ground.phase }, { on := 9, ground := Ground.phase }], guard := none }] true).wp Tryd.prog Q a0 w0 := by
 have hS : distS [some 75, some 76, some 77, some 78, some 79, some 80, some 81, some 82, some 83, some 84, some 3] = true := rfl
 refine wp_region_inv (by kernel_rfl) (JltE P x y s w0 a0) ⟨⟨rfl, rfl, rfl, fun _ _ => rfl, (Below.refl _ w0).drew, fun j d hj => ?_, fun j hj => ?_⟩, AccI.start hr⟩ ?_ ?_
 · exfalso
   rw [Array.getD_eq_getD_getElem?, Array.getElem?_replicate] at hj
   split at hj <;> simp at hj
 · exfalso
   rw [Array.getD_eq_getD_getElem?, Array.getElem?_replicate] at hj
   split at hj <;> simp at hj
 · intro lq aq W iq oq ⟨hJ, hs⟩ hl ho hall
   have hJ2 := hJ
   obtain ⟨z1, z2, z3, z4, z5, z6, z7⟩ := hJ
   have g7 : aq.tmps.getD 7 undef = .pointer (some ⟨P, 0, none⟩) := by rw [Array.getD_eq_getD_getElem?, z4 7 (by decide), h7]; rfl
   have c0 : W.cell? ⟨P, 0, none⟩ = some (.int .i64 x) := (z5.cell l0).trans k0
   have c1 : W.cell? ⟨P, 1, none⟩ = some (.int .i64 y) := (z5.cell l1).trans k1
   match iq, ho with
   | 0, ho =>
     cases ho
     refine wpOp_of rfl rfl ?_
     have hq := fun (v : Value) => hs.quiet 0 75 v (by decide) hl (by decide) (by decide)
     have g3 : aq.tmps.getD 3 undef = .string (bA s) := hs.2 (hs.off (i := 0) (by decide) hl)
     have hK := fun (v : Value) (W2 : World) hW hT hv (hs : SltE P x y s (lq.setIfInBounds 0 true) (aq.put (some 75) v) W2) => show (JltE P x y s w0 a0) (lq.setIfInBounds 0 true) (aq.put (some 75) v) W2 from ⟨hJ2.put hS 0 75 rfl (by omega) (W' := W2) hW hT v hv, hs⟩
     clear ho hall hl hQ
     generalize (JltE P x y s w0 a0) (lq.setIfInBounds 0 true) = K at hK ⊢
     clear hJ2 hS z1 z2 z3 z4 z6 z7
     go_simp
     exact hK _ _ z5 (fun _ _ h => h) rfl (hq _)
   | 1, ho =>
     cases ho
     refine wpOp_of rfl rfl ?_
     have hq := fun (v : Value) => hs.quiet 1 76 v (by decide) hl (by decide) (by decide)
     have hK := fun (v : Value) (W2 : World) hW hT hv (hs : SltE P x y s (lq.setIfInBounds 1 true) (aq.put (some 76) v) W2) => show (JltE P x y s w0 a0) (lq.setIfInBounds 1 true) (aq.put (some 76) v) W2 from ⟨hJ2.put hS 1 76 rfl (by omega) (W' := W2) hW hT v hv, hs⟩
     clear ho hall hl hQ
     generalize (JltE P x y s w0 a0) (lq.setIfInBounds 1 true) = K at hK ⊢
     clear hJ2 hS z1 z2 z3 z4 z6 z7
     go_simp
     exact hK _ _ z5 (fun _ _ h => h) rfl (hq _)
   | 2, ho =>
     cases ho
     refine wpOp_of rfl rfl ?_
     have f1 : (aq.tmps.getD 76 undef) = .pointer (some ⟨P, 0, none⟩) := z6 1 76 (hall { on := 1, ground := Ground.data } (by simp) rfl) rfl
     have hq := fun (v : Value) => hs.quiet 2 77 v (by decide) hl (by decide) (by decide)
     have hK := fun (v : Value) (W2 : World) hW hT hv (hs : SltE P x y s (lq.setIfInBounds 2 true) (aq.put (some 77) v) W2) => show (JltE P x y s w0 a0) (lq.setIfInBounds 2 true) (aq.put (some 77) v) W2 from ⟨hJ2.put hS 2 77 rfl (by omega) (W' := W2) hW hT v hv, hs⟩
     clear ho hall hl hQ
     generalize (JltE P x y s w0 a0) (lq.setIfInBounds 2 true) = K at hK ⊢
     clear hJ2 hS z1 z2 z3 z4 z6 z7
     go_simp
     exact hK _ _ z5 (fun _ _ h => h) rfl (hq _)
   | 3, ho =>
     cases ho
     refine wpOp_of rfl rfl ?_
     have f2 : (aq.tmps.getD 77 undef) = .int .i64 x := z6 2 77 (hall { on := 2, ground := Ground.data } (by simp) rfl) rfl
     have hq := fun (v : Value) => hs.quiet 3 78 v (by decide) hl (by decide) (by decide)
     have hK := fun (v : Value) (W2 : World) hW hT hv (hs : SltE P x y s (lq.setIfInBounds 3 true) (aq.put (some 78) v) W2) => show (JltE P x y s w0 a0) (lq.setIfInBounds 3 true) (aq.put (some 78) v) W2 from ⟨hJ2.put hS 3 78 rfl (by omega) (W' := W2) hW hT v hv, hs⟩
     clear ho hall hl hQ
     generalize (JltE P x y s w0 a0) (lq.setIfInBounds 3 true) = K at hK ⊢
     clear hJ2 hS z1 z2 z3 z4 z6 z7
     go_simp
     refine (l6Num_any x hx W).mono ?_
     rintro e v1 ⟨rfl, hBv⟩
     exact hK _ _ (z5.trans (hBv.mono z5.size)) (fun j v h => h.mono hBv) rfl (hq _)
   | 4, ho =>
     cases ho
     refine wpOp_of rfl rfl ?_
     have f0 : (aq.tmps.getD 75 undef) = .string (bA s) := z6 0 75 (hall { on := 0, ground := Ground.data } (by simp) rfl) rfl
     have f3 : (aq.tmps.getD 78 undef) = .string (bA (Lib.itoa x)) := z6 3 78 (hall { on := 3, ground := Ground.data } (by simp) rfl) rfl
     have hq := fun (v : Value) => hs.quiet 4 79 v (by decide) hl (by decide) (by decide)
     have l1 := itoa_size hx; have l2 := itoa_size hy
     have hK := fun (v : Value) (W2 : World) hW hT hv (hs : SltE P x y s (lq.setIfInBounds 4 true) (aq.put (some 79) v) W2) => show (JltE P x y s w0 a0) (lq.setIfInBounds 4 true) (aq.put (some 79) v) W2 from ⟨hJ2.put hS 4 79 rfl (by omega) (W' := W2) hW hT v hv, hs⟩
     clear ho hall hl hQ
     generalize (JltE P x y s w0 a0) (lq.setIfInBounds 4 true) = K at hK ⊢
     clear hJ2 hS z1 z2 z3 z4 z6 z7
     go_simp
     rw [if_neg (by omega)]
     exact hK _ _ z5 (fun _ _ h => h) rfl (hq _)
   | 5, ho =>
     cases ho
     refine wpOp_of rfl rfl ?_
     have f4 : (aq.tmps.getD 79 undef) = .string (bA s ++ bA (Lib.itoa x)) := z6 4 79 (hall { on := 4, ground := Ground.data } (by simp) rfl) rfl
     have hq := fun (v : Value) => hs.quiet 5 80 v (by decide) hl (by decide) (by decide)
     have l1 := itoa_size hx; have l2 := itoa_size hy
     have hK := fun (v : Value) (W2 : World) hW hT hv (hs : SltE P x y s (lq.setIfInBounds 5 true) (aq.put (some 80) v) W2) => show (JltE P x y s w0 a0) (lq.setIfInBounds 5 true) (aq.put (some 80) v) W2 from ⟨hJ2.put hS 5 80 rfl (by omega) (W' := W2) hW hT v hv, hs⟩
     clear ho hall hl hQ
     generalize (JltE P x y s w0 a0) (lq.setIfInBounds 5 true) = K at hK ⊢
     clear hJ2 hS z1 z2 z3 z4 z6 z7
     go_simp
     rw [if_neg (by omega)]
     exact hK _ _ z5 (fun _ _ h => h) rfl (hq _)
   | 6, ho =>
     cases ho
     refine wpOp_of rfl rfl ?_
     have hq := fun (v : Value) => hs.quiet 6 81 v (by decide) hl (by decide) (by decide)
     have hK := fun (v : Value) (W2 : World) hW hT hv (hs : SltE P x y s (lq.setIfInBounds 6 true) (aq.put (some 81) v) W2) => show (JltE P x y s w0 a0) (lq.setIfInBounds 6 true) (aq.put (some 81) v) W2 from ⟨hJ2.put hS 6 81 rfl (by omega) (W' := W2) hW hT v hv, hs⟩
     clear ho hall hl hQ
     generalize (JltE P x y s w0 a0) (lq.setIfInBounds 6 true) = K at hK ⊢
     clear hJ2 hS z1 z2 z3 z4 z6 z7
     go_simp
     exact hK _ _ z5 (fun _ _ h => h) rfl (hq _)
   | 7, ho =>
     cases ho
     refine wpOp_of rfl rfl ?_
     have f6 : (aq.tmps.getD 81 undef) = .pointer (some ⟨P, 1, none⟩) := z6 6 81 (hall { on := 6, ground := Ground.data } (by simp) rfl) rfl
     have hq := fun (v : Value) => hs.quiet 7 82 v (by decide) hl (by decide) (by decide)
     have hK := fun (v : Value) (W2 : World) hW hT hv (hs : SltE P x y s (lq.setIfInBounds 7 true) (aq.put (some 82) v) W2) => show (JltE P x y s w0 a0) (lq.setIfInBounds 7 true) (aq.put (some 82) v) W2 from ⟨hJ2.put hS 7 82 rfl (by omega) (W' := W2) hW hT v hv, hs⟩
     clear ho hall hl hQ
     generalize (JltE P x y s w0 a0) (lq.setIfInBounds 7 true) = K at hK ⊢
     clear hJ2 hS z1 z2 z3 z4 z6 z7
     go_simp
     exact hK _ _ z5 (fun _ _ h => h) rfl (hq _)
   | 8, ho =>
     cases ho
     refine wpOp_of rfl rfl ?_
     have f7 : (aq.tmps.getD 82 undef) = .int .i64 y := z6 7 82 (hall { on := 7, ground := Ground.data } (by simp) rfl) rfl
     have hq := fun (v : Value) => hs.quiet 8 83 v (by decide) hl (by decide) (by decide)
     have hK := fun (v : Value) (W2 : World) hW hT hv (hs : SltE P x y s (lq.setIfInBounds 8 true) (aq.put (some 83) v) W2) => show (JltE P x y s w0 a0) (lq.setIfInBounds 8 true) (aq.put (some 83) v) W2 from ⟨hJ2.put hS 8 83 rfl (by omega) (W' := W2) hW hT v hv, hs⟩
     clear ho hall hl hQ
     generalize (JltE P x y s w0 a0) (lq.setIfInBounds 8 true) = K at hK ⊢
     clear hJ2 hS z1 z2 z3 z4 z6 z7
     go_simp
     refine (l6Num_any y hy W).mono ?_
     rintro e v1 ⟨rfl, hBv⟩
     exact hK _ _ (z5.trans (hBv.mono z5.size)) (fun j v h => h.mono hBv) rfl (hq _)
   | 9, ho =>
     cases ho
     refine wpOp_of rfl rfl ?_
     have f5 : (aq.tmps.getD 80 undef) = .string (bA s ++ bA (Lib.itoa x) ++ ⟨#[32]⟩) := z6 5 80 (hall { on := 5, ground := Ground.data } (by simp) rfl) rfl
     have f8 : (aq.tmps.getD 83 undef) = .string (bA (Lib.itoa y)) := z6 8 83 (hall { on := 8, ground := Ground.data } (by simp) rfl) rfl
     have hq := fun (v : Value) => hs.quiet 9 84 v (by decide) hl (by decide) (by decide)
     have l1 := itoa_size hx; have l2 := itoa_size hy
     have hK := fun (v : Value) (W2 : World) hW hT hv (hs : SltE P x y s (lq.setIfInBounds 9 true) (aq.put (some 84) v) W2) => show (JltE P x y s w0 a0) (lq.setIfInBounds 9 true) (aq.put (some 84) v) W2 from ⟨hJ2.put hS 9 84 rfl (by omega) (W' := W2) hW hT v hv, hs⟩
     clear ho hall hl hQ
     generalize (JltE P x y s w0 a0) (lq.setIfInBounds 9 true) = K at hK ⊢
     clear hJ2 hS z1 z2 z3 z4 z6 z7
     go_simp
     rw [if_neg (by omega)]
     exact hK _ _ z5 (fun _ _ h => h) rfl (hq _)
   | 10, ho =>
     cases ho
     refine wpOp_of rfl rfl ?_
     have f9 : (aq.tmps.getD 84 undef) = .string (bA s ++ bA (Lib.itoa x) ++ ⟨#[32]⟩ ++ bA (Lib.itoa y)) := z6 9 84 (hall { on := 9, ground := Ground.data } (by simp) rfl) rfl
     have hq := fun (v : Value) => AccI.assigned (n := 11) (dr := 3) (o := .string (bA s)) (az := aq) hl (fun j hj hn => match j, hj, hn with | 0, _, _ => hall { on := 0, ground := Ground.phase } (by simp) rfl | 1, _, _ => hall { on := 1, ground := Ground.phase } (by simp) rfl | 2, _, _ => hall { on := 2, ground := Ground.phase } (by simp) rfl | 3, _, _ => hall { on := 3, ground := Ground.phase } (by simp) rfl | 4, _, _ => hall { on := 4, ground := Ground.phase } (by simp) rfl | 5, _, _ => hall { on := 5, ground := Ground.phase } (by simp) rfl | 6, _, _ => hall { on := 6, ground := Ground.phase } (by simp) rfl | 7, _, _ => hall { on := 7, ground := Ground.phase } (by simp) rfl | 8, _, _ => hall { on := 8, ground := Ground.chain } (by simp) rfl | 9, _, _ => hall { on := 9, ground := Ground.data } (by simp) rfl | 10, _, hn => absurd rfl hn | j + 11, hj, _ => absurd hj (by omega)) v
     have hK := fun (v : Value) (W2 : World) hW hT hv (hs : SltE P x y s (lq.setIfInBounds 10 true) (aq.put (some 3) v) W2) => show (JltE P x y s w0 a0) (lq.setIfInBounds 10 true) (aq.put (some 3) v) W2 from ⟨hJ2.put hS 10 3 rfl (by omega) (W' := W2) hW hT v hv, hs⟩
     clear ho hall hl hQ
     generalize (JltE P x y s w0 a0) (lq.setIfInBounds 10 true) = K at hK ⊢
     clear hJ2 hS z1 z2 z3 z4 z6 z7
     go_simp
     exact hK _ _ z5 (fun _ _ h => h) rfl (hq _)
   | iq + 11, ho => simp at ho
 · intro lq aq W ⟨hJ, hs⟩ hr
   obtain ⟨z1, z2, z3, z4, z5, z6, z7⟩ := hJ
   have hl := listed_of hr [0, 1, 2, 3, 4, 5, 6, 7, 8, 9, 10] [] (by simp) (by kernel_rfl) (by rw [z1]; decide)
   exact hQ aq W z2 z3 (fun e he => z4 e (by simpa using he)) (z6 10 3 (hl 10 (by simp)) rfl) z5 (trivial)
theorem hvB_none {n : Nat} {L : Nat → Nat} {q : Nat → Ps} (h0 : ¬ n = 0) (h : ¬ hvB n L q = true) : ltU n L q = [] := by
 unfold ltU
 rw [if_neg h0, if_neg h]
theorem smR_part {L : Nat → Nat} {c n : Nat} (h : c < n) : smR L c + L c ≤ smR L n := smR_mono (L := L) (show c + 1 ≤ n from h)
theorem spU_bA (s : List UInt8) (p : Ps) (k : Nat) : bA s ++ bA (Lib.itoa (p k).1) ++ ⟨#[32]⟩ ++ bA (Lib.itoa (p k).2) = bA (s ++ spU p k) := by
 show bA s ++ bA _ ++ bA [32] ++ bA _ = _
 rw [bA_append, bA_append, bA_append, spU]
 simp
theorem bA_isE {l : List UInt8} (h : l ≠ []) : (bA l).toList.isEmpty = false := by
 rw [ByteArray.toList_eq, bA_list]
 cases l with
 | nil => exact absurd rfl h
 | cons _ _ => rfl
set_option maxRecDepth 100000 in
set_option maxHeartbeats 4000000 in
theorem specLayerText_any (ao : Option Addr) (n cap : Nat) (S : Nat → Option Addr × Nat) (L : Nat → Nat) (q : Nat → Ps) (hn : n ≤ 1048576) (hL : ∀ i, i < n → L i ≤ 1048576) (w : World) (hS : RgIn w ao n S L q) : Calls Tryd.prog 6 #[.slice ao n cap] w (VP (.string (bA (ltU n L q))) w) := by
 have HS : Hid (RgIn w ao n S L q) := hS
 have HL : Hid (∀ i, i < n → L i ≤ 1048576) := hL
 have hnI : (n : Int) ≤ 1048576 := by omega
 clear hS hL
 by_cases h0 : n = 0
 · subst h0
   go_enter Tryd.func6, Tryd.ntmps6
   go_wp2
   go_ret
   exact ⟨rfl, Below.refl _ _⟩
 · have h0I : ¬ ((n : Int) = 0) := by omega
   have HN : Hid (¬ hvB n L q = true → ltU n L q = []) := hvB_none h0
   by_cases h6 : n ≤ 6
   · have h6I : ¬ ((n : Int) > 6) := by omega
     go_enter Tryd.func6, Tryd.ntmps6
     go_wp2_with fail
     go_loopw [3, 4, 5] (fun s m i wr => ∃ c : Nat, c ≤ n ∧ i = .int .i64 c ∧ s = .string (bA (lyU L q c)) ∧ m = .int .i64 (smR L c : Nat) ∧ smR L c ≤ 20 ∧ Hid (∀ i, i < c → htB (L i) (q i) = true) ∧ Below w.heap.size w wr) (fun _ _ i _ => n - (intOf i).toNat)
     case atStart => exact ⟨0, by omega, rfl, rfl, rfl, by simp [smR], fun i hi => by omega, Below.refl _ _⟩
     case round =>
       obtain ⟨c, hc, rfl, rfl, rfl, hsm, HA, HBr⟩ := hrel
       by_cases hcn : c < n
       · have hcI : (c : Int) < n := by omega
         obtain ⟨A, off, rfl, hA, q0, hrow⟩ := HS.out.step HBr c hcn
         obtain ⟨so, hso⟩ : ∃ so, (S c).1 = so := ⟨_, rfl⟩
         obtain ⟨sc, hsc⟩ : ∃ sc, (S c).2 = sc := ⟨_, rfl⟩
         obtain ⟨l, hl⟩ : ∃ l, L c = l := ⟨_, rfl⟩
         have HR : Hid (∀ W, Below w.heap.size w W → W.cell? ⟨A, off + c, none⟩ = some (.slice so l sc) ∧ SpIn W so l (q c)) := fun W h => by
           obtain ⟨_, _, e, _, h8, h9⟩ := HS.out.step h c hcn
           cases e
           rw [hso, hl] at h9
           rw [hso, hsc, hl] at h8
           exact ⟨h8, h9⟩
         rw [hso, hsc, hl] at q0
         have hl9 := HL.out c hcn
         rw [hl] at hl9
         have HLl : Hid (L c = l) := hl
         have HP : Hid (smR L c + l ≤ smR L n) := by have := smR_part (L := L) hcn; rw [hl] at this; exact this
         have hw : IntKind.i64.wrap (((smR L c : Nat) : Int) + (l : Int)) = ((smR L c + l : Nat) : Int) := by rw [IntKind.wrap_i64]; omega
         have HSm : Hid (smR L (c + 1) = smR L c + l) := by show _ = _; rw [smR, hl]
         clear hso hsc hl hrow
         have hs9 : (bA (lyU L q c)).size ≤ 1000 := by
           have := lyU_le c HA.out
           rw [bA_size]
           omega
         obtain ⟨sm, hsm2⟩ : ∃ sm, smR L c = sm := ⟨_, rfl⟩
         rw [hsm2] at hw hsm HP HSm
         simp only [hsm2]
         clear hsm2
         by_cases hl0 : l = 0
         · have hl0I : (l : Int) = 0 := by omega
           have HO : Hid (ltU n L q = []) := HN.out fun h => by
             have := (htB_iff.1 ((hvB_iff.1 h).2 c hcn)).1
             rw [HLl.out] at this
             omega
           clear HL HA HN HP hsm HSm HR
           go_wp2
           go_ret
           exact ⟨by rw [HO.out]; rfl, HBr⟩
         · have hl0I : ¬ ((l : Int) = 0) := by omega
           by_cases h20 : sm + l ≤ 20
           · have h20I : ¬ (((sm + l : Nat) : Int) > 20) := by omega
             obtain ⟨t, ht⟩ : ∃ t, sm + l = t := ⟨_, rfl⟩
             rw [ht] at hw h20 h20I HP HSm
             clear hsm
             rcases Nat.eq_zero_or_pos c with hc0 | hc0
             case' inl =>
               have hc0I : ¬ ((c : Int) > 0) := by omega
               have HE : Hid (bA (lyU L q c) = bA (stU L q c 0)) := by
                 show _ = _
                 subst hc0
                 rfl
             case' inr =>
               have hc0I : (c : Int) > 0 := by omega
               have HE : Hid (bA (lyU L q c) ++ ⟨#[32, 47]⟩ = bA (stU L q c 0)) := by
                 show _ = _
                 rw [show stU L q c 0 = lyU L q c ++ [32, 47] by unfold stU; rw [if_pos rfl, if_neg (by omega)]]
                 exact bA_append _ [32, 47]
             all_goals
               generalize bA (lyU L q c) = s0 at *
               have hs9' : ¬ (9223372036854775807 < s0.size + 2) := by omega
               clear hc0
               go_wp2_with fail
               go_loopw [3, 6] (fun s i w2 => ∃ k : Nat, k ≤ l ∧ i = .int .i64 k ∧ s = .string (bA (stU L q c k)) ∧ Hid (∀ j, j < k → shB (q c j).1 = true ∧ shB (q c j).2 = true) ∧ Below w.heap.size w w2) (fun _ i _ => l - (intOf i).toNat)
               case atStart => exact ⟨0, by omega, rfl, congrArg Value.string HE.out, fun j hj => by omega, HBr⟩
               case round =>
                 obtain ⟨k, hk, rfl, rfl, HK, HB2⟩ := hrel
                 clear HE q0 HBr
                 obtain ⟨q0, hrow⟩ := HR.out _ HB2
                 by_cases hkl : k < l
                 · have hkI : (k : Int) < l := by omega
                   obtain ⟨A2, o2, rfl, hA3, s1, s2⟩ := hrow k hkl
                   have hs9 : (bA (stU L q c k)).size ≤ 1000 := by
                     have h1 := stU_le HA.out HK.out
                     have h2 := HSm.out
                     rw [smR, HLl.out] at h2
                     rw [bA_size]
                     omega
                   obtain ⟨b1, hb1⟩ : ∃ b1, shB (q c k).1 = b1 := ⟨_, rfl⟩
                   obtain ⟨b2, hb2⟩ : ∃ b2, shB (q c k).2 = b2 := ⟨_, rfl⟩
                   have C1 := fun w => l6Short_any (q c k).1 b1 hb1 w
                   have C2 := fun w => l6Short_any (q c k).2 b2 hb2 w
                   have H12 : Hid (shB (q c k).1 = b1 ∧ shB (q c k).2 = b2) := ⟨hb1, hb2⟩
                   have HSt : Hid (stU L q c (k + 1) = (if c = 0 ∧ k = 0 then [] else stU L q c k ++ [32]) ++ spU (q c) k) := stU_step
                   have HNil : Hid (stU L q c k = [] ↔ c = 0 ∧ k = 0) := stU_nil
                   clear hb1 hb2 hrow
                   have X := Blk.new wr [.int .i64 (q c k).1, .int .i64 (q c k).2] 41 rfl
                   have HBX := HB2.alloc HB2.size (.cells #[.int .i64 (q c k).1, .int .i64 (q c k).2] 41)
                   go_upto_region 19 with fail
                   clear s1 s2 q0 HB2 hA3
                   generalize wr.heap.size = P at *
                   revert X
                   rw [show ([.int .i64 (q c k).1, .int .i64 (q c k).2] : List Value).toArray = #[.int .i64 (q c k).1, .int .i64 (q c k).2] from rfl]
                   intro X
                   generalize (wr.alloc (.cells #[.int .i64 (q c k).1, .int .i64 (q c k).2] 41)) = W2 at *
                   have x0 := X.c 0 rfl; have x1 := X.c 1 rfl
                   generalize stU L q c k = U at *
                   go_wp2_with fail
                   refine (C1 _).mono ?_
                   rintro e w3 ⟨rfl, hB⟩
                   have X3 := X.step hB
                   replace HBX := HBX.trans (hB.mono HBX.size)
                   clear hB C1 x0 x1 X
                   have x0 := X3.c 0 rfl; have x1 := X3.c 1 rfl
                   cases b1 with
                   | false =>
                     have HO : Hid (ltU n L q = []) := HN.out fun h => by
                       have := ((htB_iff.1 ((hvB_iff.1 h).2 c hcn)).2 k (by rw [HLl.out]; exact hkl)).1
                       rw [H12.out.1] at this
                       cases this
                     clear C2 X3 x0 x1 HL HA HN HP HSm HR HK H12 HSt HNil
                     go_wp2
                     go_ret
                     exact ⟨by rw [HO.out]; rfl, HBX⟩
                   | true =>
                     go_wp2_with fail
                     refine (C2 _).mono ?_
                     rintro e w4 ⟨rfl, hB⟩
                     have X4 := X3.step hB
                     replace HBX := HBX.trans (hB.mono HBX.size)
                     clear hB C2 x0 x1 X3
                     cases b2 with
                     | false =>
                       have HO : Hid (ltU n L q = []) := HN.out fun h => by
                         have := ((htB_iff.1 ((hvB_iff.1 h).2 c hcn)).2 k (by rw [HLl.out]; exact hkl)).2
                         rw [H12.out.2] at this
                         cases this
                       clear X4 HL HA HN HP HSm HR HK H12 HSt HNil
                       go_wp2
                       go_ret
                       exact ⟨by rw [HO.out]; rfl, HBX⟩
                     | true =>
                       have HK2 : Hid (∀ j, j < k + 1 → shB (q c j).1 = true ∧ shB (q c j).2 = true) := fun j hj => by
                         rcases Nat.lt_or_ge j k with h | h
                         · exact HK.out j h
                         · obtain rfl : j = k := by omega
                           exact H12.out
                       obtain ⟨h1, h2⟩ := H12.out
                       clear HK H12
                       by_cases h00 : c = 0 ∧ k = 0
                       case' pos =>
                         have hE := HNil.out.2 h00
                         obtain ⟨s, hs⟩ : ∃ s : List UInt8, s = [] := ⟨_, rfl⟩
                         have HS2 : Hid (stU L q c (k + 1) = s ++ spU (q c) k) := by
                           show _ = _
                           rw [HSt.out, if_pos h00, hs]
                         have hsS : (bA s).size ≤ 2000 := by
                           rw [hs, bA_size]
                           simp
                         subst hE
                         have HE2 : Hid (⟨#[]⟩ = bA s) := by
                           subst hs
                           rfl
                         rw [show bA [] = ⟨#[]⟩ from rfl]
                       case' neg =>
                         have hE := bA_isE fun h => h00 (HNil.out.1 h)
                         obtain ⟨s, hs⟩ : ∃ s : List UInt8, s = U ++ [32] := ⟨_, rfl⟩
                         have HS2 : Hid (stU L q c (k + 1) = s ++ spU (q c) k) := by
                           show _ = _
                           rw [HSt.out, if_neg h00, hs]
                         have hsS : (bA s).size ≤ 2000 := by
                           rw [bA_size] at hs9
                           rw [hs, bA_size, List.length_append]
                           simp only [List.length_cons, List.length_nil]
                           omega
                         have HE2 : Hid (bA U ++ ⟨#[32]⟩ = bA s) := by
                           subst hs
                           exact bA_append U [32]
                         have hs92 : ¬ (9223372036854775807 < (bA U).size + 1) := by omega
                         generalize bA U = s1 at *
                       all_goals
                         clear HNil HSt h00 hs
                         go_upto_region 23 with fail
                         refine ltE (P := P) (x := (q c k).1) (y := (q c k).2) (s := s) h1 h2 hsS (congrArg Value.string HE2.out) rfl (X4.c 0 rfl) X4.lt (X4.c 1 rfl) X4.lt rfl ?_
                         rintro ⟨tm, df⟩ Wz hz hdf hoff hx hBz -
                         simp only at hz hdf hoff hx
                         change tm.getD 3 undef = .string (bA s ++ bA (Lib.itoa (q c k).1) ++ ⟨#[32]⟩ ++ bA (Lib.itoa (q c k).2)) at hx
                         rw [spU_bA, ← HS2.out] at hx
                         subst hdf
                         have htm := tmps_fold [75, 76, 77, 78, 79, 80, 81, 82, 83, 84, 3] tm _ hz hoff
                         simp only [List.foldl, List.setIfInBounds_toArray, List.set_cons_zero, List.set_cons_succ, hx] at htm
                         clear hz hoff
                         generalize tm.getD 75 undef = u0, tm.getD 76 undef = u1, tm.getD 77 undef = u2, tm.getD 78 undef = u3, tm.getD 79 undef = u4, tm.getD 80 undef = u5, tm.getD 81 undef = u6, tm.getD 82 undef = u7, tm.getD 83 undef = u8, tm.getD 84 undef = u9 at htm
                         clear hx
                         subst htm
                         have HBN := HBX.trans (hBz.mono HBX.size)
                         clear hBz HBX X4 hsS HS2 HE2
                         go_wp2
                         go_roundw
                         case rel => exact ⟨k + 1, by omega, by go_num, rfl, HK2, HBN⟩
                         case measure => simp [intOf]; omega
                 · obtain rfl : k = l := by omega
                   have HN2 : Hid (∀ i, i < c + 1 → htB (L i) (q i) = true) := fun i hi => by
                     rcases Nat.lt_or_ge i c with h | h
                     · exact HA.out i h
                     · obtain rfl : i = c := by omega
                       rw [HLl.out]
                       exact htB_iff.2 ⟨by omega, HK.out⟩
                   have HE2 : Hid (bA (stU L q c k) = bA (lyU L q (c + 1))) := by
                     show _ = _
                     rw [← stU_end (by rw [HLl.out]; omega), HLl.out]
                   clear HK HA hrow HP
                   go_wp2
                   go_roundw
                   case rel => exact ⟨c + 1, by omega, by go_num, congrArg Value.string HE2.out, by rw [HSm.out], by rw [HSm.out]; exact h20, HN2, HB2⟩
                   case measure => simp [intOf]; omega
           · have h20I : ((sm + l : Nat) : Int) > 20 := by omega
             have HO : Hid (ltU n L q = []) := HN.out fun h => by
               have h1 := (hvB_iff.1 h).1.2
               have h2 := HP.out
               omega
             clear HL HA HN HP hsm HSm HR
             go_wp2
             go_ret
             exact ⟨by rw [HO.out]; rfl, HBr⟩
       · obtain rfl : c = n := by omega
         have HO : Hid (ltU c L q = lyU L q c) := by
           show _ = _
           unfold ltU
           rw [if_neg h0, if_pos (hvB_iff.2 ⟨⟨h6, hsm⟩, HA.out⟩)]
         clear HA HN HL HS hsm
         go_wp2
         go_ret
         exact ⟨by rw [HO.out]; rfl, HBr⟩
   · have h6I : (n : Int) > 6 := by omega
     have HO : Hid (ltU n L q = []) := HN.out fun h => by have := (hvB_iff.1 h).1.1; omega
     clear HN HL HS
     go_enter Tryd.func6, Tryd.ntmps6
     go_wp2
     go_ret
     exact ⟨by rw [HO.out]; rfl, Below.refl _ _⟩
def wdF (st : List (List UInt8) × List UInt8) (b : UInt8) : List (List UInt8) × List UInt8 := if b = 32 then (if st.2 = [] then st.1 else st.1 ++ [st.2], []) else (st.1, st.2 ++ [b])
def wdS (l : List UInt8) : List (List UInt8) × List UInt8 := l.foldl wdF ([], [])
def wdL (l : List UInt8) : List (List UInt8) := (wdF (wdS l) 32).1
theorem wdS_snoc (l : List UInt8) (b : UInt8) : wdS (l ++ [b]) = wdF (wdS l) b := by simp [wdS]
theorem snocR {P : List UInt8 → Prop} (h0 : P []) (h1 : ∀ l b, P l → P (l ++ [b])) (l : List UInt8) : P l := by
 have key : ∀ l : List UInt8, P l.reverse := fun l => by
   induction l with
   | nil => exact h0
   | cons b l ih => rw [List.reverse_cons]; exact h1 _ _ ih
 rw [← List.reverse_reverse l]
 exact key _
theorem wdS_len : ∀ l : List UInt8, (wdS l).1.length ≤ l.length ∧ (wdS l).2.length ≤ l.length ∧ ∀ x ∈ (wdS l).1, x.length ≤ l.length := fun l => by
 induction l using snocR with
 | h0 => simp [wdS]
 | h1 l b ih =>
   obtain ⟨h1, h2, h3⟩ := ih
   rw [wdS_snoc]
   unfold wdF
   split
   · split
     · simp only [List.length_append, List.length_cons, List.length_nil]
       exact ⟨by omega, by omega, fun x hx => by have := h3 x hx; omega⟩
     · simp only [List.length_append, List.length_cons, List.length_nil]
       refine ⟨by omega, by omega, fun x hx => ?_⟩
       rcases List.mem_append.1 hx with hx | hx
       · have := h3 x hx; omega
       · obtain rfl : x = (wdS l).2 := by simpa using hx
         omega
   · simp only [List.length_append, List.length_cons, List.length_nil]
     exact ⟨by omega, by omega, fun x hx => by have := h3 x hx; omega⟩
def WsO (b : Nat) (w : World) (v : Value) (ls : List (List UInt8)) : Prop := ∃ g cap, v = .slice (some ⟨g, 0, none⟩) ls.length cap ∧ b ≤ g ∧ w.ownsRow b 9 1 v ls.length (ls.map fun l => .string (bA l))
theorem ownW_form {w : World} {b n : Nat} {v : Value} {xs : List Value} (h : w.ownsRow b 9 1 v n xs) (hv : v ≠ .slice none 0 0) : ∃ g cap, v = .slice (some ⟨g, 0, none⟩) n cap ∧ b ≤ g := by
 rcases h.2 with ⟨h1, _⟩ | ⟨g, cap, cur, h1, h2, _⟩
 · exact absurd h1 hv
 · exact ⟨g, cap, h1, h2⟩
theorem one_cellT (s : ByteArray) : ∀ u ∈ [Value.string s], u.oneCell' = true := by
 intro u hu
 obtain rfl : u = .string s := by simpa using hu
 rfl
theorem bt_list {s : ByteArray} {c : Nat} (h : c < s.size) : s.data.toList[c]? = some (UInt8.ofNat (bt s c)) := by
 have h1 := btL_getQ h
 unfold btL at h1
 rw [List.getElem?_map] at h1
 obtain ⟨b, hb, e⟩ := Option.map_eq_some_iff.1 h1
 rw [hb, ← e]
 simp
theorem bt_extract {s : ByteArray} {c : Nat} (h : c < s.size) : s.extract c (c + 1) = bA [UInt8.ofNat (bt s c)] := by
 apply ByteArray.ext
 apply Array.ext'
 have h1 := bt_list h
 rw [Lib.extract_data]
 show (s.data.toList.drop c).take (c + 1 - c) = [_]
 rw [show c + 1 - c = 1 by omega, List.take_one, List.head?_drop, h1]
 rfl
set_option maxRecDepth 100000 in
set_option maxHeartbeats 4000000 in
theorem l6Words_any (s : ByteArray) (hs : s.size ≤ 4000) (w : World) : Calls Tryd.prog 22 #[.string s] w (fun e w' => Below w.heap.size w w' ∧ ∃ v, e = .returned v ∧ WsO w.heap.size w' v (wdL s.data.toList)) := by
 have HSz : Hid (s.size ≤ 4000) := hs
 have hsI : (s.size : Int) ≤ 4000 := by omega
 have HL : Hid (s.data.toList.length = s.size) := Array.length_toList
 have O0 : WsO w.heap.size (w.alloc (.cells #[] 9)) (.slice (some ⟨w.heap.size, 0, none⟩) 0 0) [] := ⟨w.heap.size, 0, rfl, Nat.le_refl _, World.ownsRow_made w #[] 0 (Nat.le_refl _) (by unfold maxLen; omega) rfl⟩
 have HB0 : Below w.heap.size w (w.alloc (.cells #[] 9)) := (Below.refl _ w).alloc (Nat.le_refl _) _
 clear hs
 go_enter Tryd.func22, Tryd.ntmps22
 go_wp2_with fail
 generalize (w.alloc (.cells #[] 9)) = W0 at *
 go_loopw [3, 4, 5] (fun v t i wr => ∃ c : Nat, c ≤ s.size + 1 ∧ i = .int .i64 (c : Nat) ∧ ((c ≤ s.size ∧ WsO w.heap.size wr v (wdS (s.data.toList.take c)).1 ∧ t = .string (bA (wdS (s.data.toList.take c)).2)) ∨ (c = s.size + 1 ∧ WsO w.heap.size wr v (wdL s.data.toList))) ∧ Below w.heap.size w wr) (fun _ _ i _ => s.size + 1 - (intOf i).toNat)
 case atStart => exact ⟨0, by omega, rfl, Or.inl ⟨by omega, by simpa [wdS] using O0, by simp [wdS, bA]⟩, HB0⟩
 case round =>
   clear O0 HB0
   obtain ⟨c, hc, rfl, hst, HB⟩ := hrel
   rcases hst with ⟨hcs, hW, rfl⟩ | ⟨rfl, hW⟩
   · obtain ⟨st, hst⟩ : ∃ st, wdS (s.data.toList.take c) = st := ⟨_, rfl⟩
     have hlen := wdS_len (s.data.toList.take c)
     rw [hst, List.length_take] at hlen
     rw [hst] at hW ⊢
     have HST : Hid (wdS (s.data.toList.take c) = st) := hst
     clear hst
     obtain ⟨ws, wd⟩ := st
     simp only at hW hlen ⊢
     obtain ⟨n1, n2, -⟩ := hlen
     have hsz : (bA wd).size ≤ 4000 := by rw [bA_size2]; omega
     have hk : ws.length ≤ 4000 := by omega
     have hbase := HB.size
     by_cases hnb : c < s.size ∧ bt s c ≠ 32
     · obtain ⟨hlt, hb⟩ := hnb
       have hcI : (c : Int) < s.size := by omega
       have hcJ : (c : Int) ≤ s.size := by omega
       have hbt := bt_at hlt
       have hlt2 := bt_lt s c
       have hb2 : ((bt s c : Int) == 32) = false := by rw [beq_eq_false_iff_ne]; omega
       have HN : Hid (wdS (s.data.toList.take (c + 1)) = (ws, wd ++ [UInt8.ofNat (bt s c)])) := by
         show _ = _
         rw [List.take_add_one, bt_list hlt]
         show wdS (_ ++ [_]) = _
         rw [wdS_snoc, HST.out]
         unfold wdF
         rw [if_neg (fun e => hb (by have := congrArg UInt8.toNat e; simp at this; omega))]
       have HE : Hid (bA wd ++ s.extract c (c + 1) = bA (wd ++ [UInt8.ofNat (bt s c)])) := by
         show _ = _
         rw [← bA_append, bt_extract hlt]
       have hsx : (s.extract c (c + 1)).size = 1 := by rw [ByteArray.size_extract]; omega
       have hadd : ¬ (9223372036854775807 < (bA wd).size + 1) := by omega
       have hWH : Hid (WsO w.heap.size wr u3 ws) := hW
       clear hW
       go_wp2
       go_roundw
       case rel => exact ⟨c + 1, by omega, by go_num, Or.inl ⟨by omega, by rw [HN.out]; exact hWH.out, by rw [HN.out]; exact congrArg Value.string HE.out⟩, HB⟩
       case measure => simp [intOf]; omega
     · have hcJ : (c : Int) ≤ s.size := by omega
       obtain ⟨N, hN⟩ : ∃ N, (if wd = [] then ws else ws ++ [wd]) = N := ⟨_, rfl⟩
       have hw32 : wdF (ws, wd) 32 = (N, []) := by unfold wdF; rw [if_pos rfl, ← hN]
       by_cases hlt : c < s.size
       case' pos =>
         have hb : bt s c = 32 := Classical.byContradiction fun h => hnb ⟨hlt, h⟩
         have hcI : (c : Int) < s.size := by omega
         have hbt := bt_at hlt
         have hlt2 := bt_lt s c
         have hb2 : ((bt s c : Int) == 32) = true := by rw [hb]; rfl
         have HF : Hid (∀ (W : World) (v : Value), WsO w.heap.size W v N → ((c + 1 ≤ s.size ∧ WsO w.heap.size W v (wdS (s.data.toList.take (c + 1))).1 ∧ Value.string ⟨#[]⟩ = .string (bA (wdS (s.data.toList.take (c + 1))).2)) ∨ (c + 1 = s.size + 1 ∧ WsO w.heap.size W v (wdL s.data.toList)))) := fun W v h => by
           have h1 : wdS (s.data.toList.take (c + 1)) = (N, []) := by
             rw [List.take_add_one, bt_list hlt, hb]
             show wdS (_ ++ [_]) = _
             rw [wdS_snoc, HST.out]
             exact hw32
           rw [h1]
           exact Or.inl ⟨by omega, h, rfl⟩
       case' neg =>
         have hce : c = s.size := by omega
         have hcI : ¬ ((c : Int) < s.size) := by omega
         have HF : Hid (∀ (W : World) (v : Value), WsO w.heap.size W v N → ((c + 1 ≤ s.size ∧ WsO w.heap.size W v (wdS (s.data.toList.take (c + 1))).1 ∧ Value.string ⟨#[]⟩ = .string (bA (wdS (s.data.toList.take (c + 1))).2)) ∨ (c + 1 = s.size + 1 ∧ WsO w.heap.size W v (wdL s.data.toList)))) := fun W v h => by
           refine Or.inr ⟨by omega, ?_⟩
           have h1 := HST.out
           rw [hce, ← HL.out, List.take_length] at h1
           unfold wdL
           rw [h1, hw32]
           exact h
       all_goals
         clear hnb hw32 HST n1 n2
         by_cases hwd : wd = []
         · subst hwd
           rw [if_pos rfl] at hN
           subst hN
           have HWN := HF.out wr u3 hW
           have HWH : Hid _ := HWN
           rw [show bA [] = ⟨#[]⟩ from rfl]
           clear HWN HF hW hsz
           go_wp2
           go_roundw
           case rel => exact ⟨c + 1, by omega, by go_num, HWH.out, HB⟩
           case measure => simp [intOf]; omega
         · rw [if_neg hwd] at hN
           subst hN
           have hE := bA_isE hwd
           obtain ⟨g, cap, rfl, hg, hO⟩ := hW
           obtain ⟨i0, hi, hz0, hz1, hz2⟩ := info_parts Tryd.infoStr
           have HBN := HB.alloc HB.size (.cells #[.string (bA wd)] 9)
           go_wp2_with (at_builtin; refine wpList_append_own _ rfl _ _ 46 rfl w.heap.size 9 i0 (.string ⟨#[]⟩) 1 16 Tryd.underlying46 hi hz0 hz1 hz2 rfl (by decide) _ _ _ rfl (hO.alloc _) ⟨wr.heap.size, 0, none⟩ 1 1 [.string (bA wd)] rfl rfl (cell_one_new _ _ _) (one_cellT _) (by unfold maxLen; omega) (by omega) (by simp; omega) ?_)
           intro v' w3 ho' hg' hnn
           have HB3 := HBN.grown hg' (by simp; omega) (fun j hj => (hO.lt j hj).1)
           have HWN : WsO w.heap.size w3 v' (ws ++ [wd]) := by
             obtain ⟨g', cap', e, hg''⟩ := ownW_form ho' hnn
             refine ⟨g', cap', by rw [e, List.length_append]; rfl, hg'', ?_⟩
             rw [List.length_append, List.map_append]
             exact ho'
           have HWH : Hid _ := HF.out w3 v' HWN
           clear HWN HF hg' ho' hO hi hz0 hz1 hz2 HB HBN hsz hE
           go_wp2
           go_roundw
           case rel => exact ⟨c + 1, by omega, by go_num, HWH.out, HB3⟩
           case measure => simp [intOf]; omega
   · have hcI : ¬ (((s.size + 1 : Nat) : Int) ≤ s.size) := by omega
     have HW : Hid (WsO w.heap.size wr u3 (wdL s.data.toList)) := hW
     clear hW
     go_wp2
     go_ret
     exact ⟨HB, _, rfl, HW.out⟩
theorem IsNum.step {w w' : World} {s : Bool} {ao : Option Addr} {n cap : Nat} {ds : List Int} {z : Int} {k : Nat} (h : IsNum w s ao n cap ds z k) (hb : Below w.heap.size w w') : IsNum w' s ao n cap ds z k := h.below hb
theorem Blk.set2 {W : World} {vs : List Value} {v0 v1 : Value} {g g' : Nat} (G : Blk W g' vs) (hg : g' ≠ g) : Blk ((W.setCell ⟨g, 0, none⟩ v0).setCell ⟨g, 1, none⟩ v1) g' vs := (G.setO (by exact hg) _).setO (by exact hg) _
structure MrI (w wr : World) (g : Nat) (s : Bool) (o : Option Addr) (n c : Nat) (ds : List Int) (v : Nat) : Prop where
 below : Below w.heap.size w wr
 br : Blk wr w.heap.size [.bool false, .slice none 0 0]
 bs : Blk wr g [.bool s, .slice o n c]
 num : IsNum wr s o n c ds (v : Int) 9
 gl : w.heap.size < g
theorem MrI.drew {w wr : World} {g : Nat} {s : Bool} {o : Option Addr} {n c : Nat} {ds : List Int} {v : Nat} (h : MrI w wr g s o n c ds v) : MrI w wr.drew g s o n c ds v := ⟨h.below.drew, h.br, h.bs, h.num.drew, h.gl⟩
theorem MrI.step {w wr w1 : World} {g : Nat} {s : Bool} {o : Option Addr} {n c : Nat} {ds : List Int} {v : Nat} (h : MrI w wr g s o n c ds v) (hB : Below wr.heap.size wr w1) : MrI w w1 g s o n c ds v :=
 ⟨h.below.trans (hB.mono h.below.size), h.br.step hB, h.bs.step hB, h.num.step hB, h.gl⟩
theorem MrI.next {w wr : World} {g : Nat} {s : Bool} {o : Option Addr} {n c : Nat} {ds : List Int} {v : Nat} (h : MrI w wr g s o n c ds v) {s' : Bool} {o' : Option Addr} {n' c' : Nat} {ds' : List Int} {v' k : Nat} (hN : IsNum wr s' o' n' c' ds' (v' : Int) k) (hv : (v' : Int) < pw 9) :
   MrI w ((wr.setCell ⟨g, 0, none⟩ (.bool s')).setCell ⟨g, 1, none⟩ (.slice o' n' c')) g s' o' n' c' ds' v' := by
 have hgl := h.gl
 refine ⟨(h.below.setCell (p := ⟨g, 0, none⟩) (by show w.heap.size ≤ g; omega) _).setCell (p := ⟨g, 1, none⟩) (by show w.heap.size ≤ g; omega) _, h.br.set2 (by omega), (h.bs.setI 0 (by simp) _).setI 1 (by simp) _, ?_, hgl⟩
 exact num_put (hN.tight 9 (by simpa using hv)) h.bs _ _
def TestN (N : Nat) (l : List Nat) : Prop := cutM l ≠ [] ∧ (cutM l).length ≤ N ∧ ¬ ((cutM l).head? = some 48 ∧ (l.head? = some 45 ∨ 1 < (cutM l).length))
def RdOkN (N : Nat) (l : List Nat) : Prop := RdOk l ∧ (cutM l).length ≤ N
theorem rdOkN_iff {N : Nat} (hN : N ≤ 77) {l : List Nat} : RdOkN N l ↔ TestN N l ∧ ∀ b ∈ cutM l, isD b := by
 unfold RdOkN
 rw [rdOk_iff]
 unfold TestL TestN
 constructor
 · rintro ⟨⟨⟨a, b, c⟩, d⟩, e⟩
   exact ⟨⟨a, e, c⟩, d⟩
 · rintro ⟨⟨a, b, c⟩, d⟩
   exact ⟨⟨⟨a, by omega, c⟩, d⟩, b⟩
def RdNP (N : Nat) (l : List Nat) (w : World) (e : Ending) (w' : World) : Prop :=
 (RdOkN N l ∧ (∃ (s : Bool) (o : Option Addr) (n c : Nat) (ds : List Int), e = .returned (.tuple #[.agg #[.bool s, .slice o n c], .bool true]) ∧ IsNum w' s o n c ds (rdI l) 9) ∧ Below w.heap.size w w') ∨ (¬ RdOkN N l ∧ e = .returned (.tuple #[.agg #[.bool false, .slice none 0 0], .bool false]) ∧ Below w.heap.size w w')
set_option maxRecDepth 100000 in
set_option maxHeartbeats 2000000 in
theorem l1ReadN_any (N : Nat) (hN : N ≤ 77) (s : ByteArray) (hm : s.size ≤ 9223372036854775807) (w : World) : Calls Tryd.prog 40 #[.string s, .int .i64 (N : Int)] w (RdNP N (btL s) w) := by
 obtain ⟨u, hu⟩ : ∃ u, u = strL (cutM (btL s)) := ⟨_, rfl⟩
 have hul : btL u = cutM (btL s) := by rw [hu]; exact btL_strL (cutM_lt (btL_lt s))
 have hus : u.size ≤ 9223372036854775807 := by
   rw [← btL_len, hul]
   have h2 := btL_len s
   have h3 := cutM_len (btL s)
   omega
 obtain ⟨b, hb⟩ : ∃ b, b = decide ((btL s).head? = some 45) := ⟨_, rfl⟩
 have HU : Hid (btL u = cutM (btL s)) := hul
 have HS : Hid (u = strL (cutM (btL s))) := hu
 have HBB : Hid (b = decide ((btL s).head? = some 45)) := hb
 have HB0 : Hid (Below w.heap.size w (w.alloc (Obj.cells #[.bool false, .slice none 0 0] 62))) := (Below.refl _ _).alloc (Nat.le_refl _) _
 have BR0 : Hid (Blk (w.alloc (Obj.cells #[.bool false, .slice none 0 0] 62)) w.heap.size [.bool false, .slice none 0 0]) := Blk.new w [.bool false, .slice none 0 0] _ rfl
 clear hul hu hb
 go_enter Tryd.func40, Tryd.ntmps40
 go_upto_region 2 with fail
 generalize (w.alloc (Obj.cells #[.bool false, .slice none 0 0] 62)) = W0 at *
 go_cut [7] (fun p wx => p = .bool b ∧ wx = W0)
 case first =>
   by_cases hs : 0 < s.size
   · have hbt := bt_at hs
     have hlt := bt_lt s 0
     have hs1 : (0 : Int) < s.size := by omega
     have e1 : ((bt s 0 : Int) == 45) = b := by
       rw [HBB.out, btL_head hs, Bool.eq_iff_iff, beq_iff_eq, decide_eq_true_iff]
       simp only [Option.some.injEq]
       omega
     go_wp2
     go_meet
     exact ⟨rfl, rfl⟩
   · have hs1 : ¬ (0 : Int) < s.size := by omega
     have e1 : b = false := by
       rw [HBB.out, List.length_eq_zero_iff.1 (show (btL s).length = 0 by rw [btL_len]; omega)]
       rfl
     go_wp2
     go_meet
     exact ⟨by rw [e1], rfl⟩
 case rest =>
   obtain ⟨hp, hw⟩ := hcut
   have hw' := hw.symm
   subst hp hw'
   rename_i hk
   refine hk _ _ ?_
   clear hk hw
   go_upto_region 3 with fail
   go_cut [19] (fun p wx => p = .bool b ∧ wx = W0)
   case first =>
     go_wp2
     go_meet
     exact ⟨rfl, rfl⟩
   case rest =>
     obtain ⟨hp, hw⟩ := hcut
     have hw' := hw.symm
     subst hp hw'
     rename_i hk
     refine hk _ _ ?_
     clear hk hw
     go_cut [6] (fun p wx => p = .string u ∧ wx = W0)
     case first =>
       cases b
       · have h1 : ¬ (btL s).head? = some 45 := by simpa using HBB.out
         have e1 : Hid (u = s) := by show _ = _; rw [HS.out, cutM_pos h1, strL_btL]
         clear h1
         go_wp2
         go_meet
         exact ⟨by rw [e1.out], rfl⟩
       · have h1 : (btL s).head? = some 45 := by simpa using HBB.out
         have hs : 0 < s.size := by
           rw [← btL_len]
           cases hl : btL s with
           | nil => rw [hl] at h1; simp at h1
           | cons x t => simp
         have e1 : Hid (s.extract 1 s.size = u) := by show _ = _; rw [HS.out]; exact ex_tail h1
         have hs1 : (1 : Int) ≤ s.size := by omega
         clear h1
         go_wp2
         go_meet
         exact ⟨by rw [e1.out], rfl⟩
     case rest =>
       obtain ⟨hp, hw⟩ := hcut
       have hw' := hw.symm
       subst hp hw'
       clear hw
       go_upto_region 5 with fail
       by_cases hT : TestN N (btL s)
       · obtain ⟨t1, t2, t3⟩ := hT
         have hT : TestN N (btL s) := ⟨t1, t2, t3⟩
         rw [← HU.out] at t1 t2 t3
         rw [btL_len] at t2 t3
         have hu0 : 0 < u.size := by
           rw [← btL_len]
           exact List.length_pos_iff.2 t1
         rw [btL_head hu0] at t3
         have HT : Hid (TestN N (btL s)) := hT
         have HT3 : Hid (¬ (some (bt u 0) = some 48 ∧ ((btL s).head? = some 45 ∨ 1 < u.size))) := t3
         clear t1 t3 hT
         have hbt := bt_at hu0
         have hlt := bt_lt u 0
         have i1 : ¬ ((u.size : Int) < 1) := by omega
         have i2 : ¬ ((N : Int) < u.size) := by omega
         go_cut [43] (fun p wx => p = .bool false ∧ wx = W0)
         case first =>
           by_cases h48 : bt u 0 = 48
           · have hb0 : ((bt u 0 : Int) == 48) = true := by rw [h48]; rfl
             obtain rfl : b = false := by
               rw [HBB.out]
               exact decide_eq_false fun h => HT3.out ⟨by rw [h48], Or.inl h⟩
             have i3 : ¬ ((1 : Int) < u.size) := fun h => HT3.out ⟨by rw [h48], Or.inr (by omega)⟩
             clear h48
             go_wp2
             go_meet
             exact ⟨by first | rfl | (exact congrArg Value.bool (decide_eq_false i3)) | (exact congrArg Value.bool (decide_eq_false (by omega))), rfl⟩
           · have hb0 : ((bt u 0 : Int) == 48) = false := beq_eq_false_iff_ne.2 (by omega)
             clear h48
             go_wp2
             go_meet
             exact ⟨by first | rfl | (exact congrArg Value.bool (decide_eq_false (by omega))), rfl⟩
         case rest =>
           obtain ⟨hp, hw⟩ := hcut
           have hw' := hw.symm
           subst hp hw'
           clear hw hbt hlt i1 i2
           have HB := HB0.out
           have N0 : IsNum (W0.alloc (Obj.cells #[.bool false, .slice none 0 0] 62)) false none 0 0 [] ((0 : Nat) : Int) 9 := ⟨rfl, rfl, Nat.le_refl _, Rd.nil _ _, nrm_nil, rfl, by omega⟩
           have HI0 : Hid (MrI w (W0.alloc (Obj.cells #[.bool false, .slice none 0 0] 62)) W0.heap.size false none 0 0 [] 0) :=
             ⟨HB.alloc HB.size _, BR0.out.alloc _, Blk.new _ [.bool false, .slice none 0 0] _ rfl, N0, BR0.out.lt⟩
           clear N0 HB
           go_wp2
           generalize (W0.alloc (Obj.cells #[.bool false, .slice none 0 0] 62)) = W1 at *
           generalize W0.heap.size = g at *
           clear BR0 HB0
           go_loopw [9] (fun i wr => ∃ (c : Nat) (s' : Bool) (o : Option Addr) (n cp : Nat) (ds : List Int), c ≤ u.size ∧ i = .int .i64 c ∧ MrI w wr g s' o n cp ds (rdN ((btL u).take c)) ∧ ∀ j, j < c → isD (bt u j)) (fun i _ => u.size - (intOf i).toNat)
           case atStart => exact ⟨0, _, _, _, _, _, Nat.zero_le _, rfl, HI0.out, fun j hj => by omega⟩
           case round =>
             clear HI0
             obtain ⟨c, s', o, n, cp, ds, hc, rfl, hI, hD⟩ := hrel
             have HD : Hid (∀ j, j < c → isD (bt u j)) := hD
             have HII : Hid (MrI w wr g s' o n cp ds (rdN ((btL u).take c))) := hI
             have hgl := hI.gl
             clear hD
             by_cases hcs : c < u.size
             · have hbt := bt_at hcs
               have hlt := bt_lt u c
               have hcI : (c : Int) < u.size := by omega
               by_cases hd : isD (bt u c)
               · obtain ⟨hd1, hd2⟩ := hd
                 have hd3 : ¬ ((bt u c : Int) < 48) := by omega
                 have hd4 : ¬ ((57 : Int) < (bt u c : Int)) := by omega
                 obtain ⟨d, hd⟩ : ∃ d, d = bt u c - 48 := ⟨_, rfl⟩
                 have hdI : (bt u c : Int) - 48 = d := by omega
                 have hcl : c < (btL u).length := by rw [btL_len]; exact hcs
                 have hnx : Hid (10 * rdN ((btL u).take c) + d = rdN ((btL u).take (c + 1))) := by show _ = _; rw [rdN_take _ _ hcl, btL_get hcl, hd]
                 have hn2 : Hid (((rdN ((btL u).take (c + 1)) : Nat) : Int) < pw 9) := by
                   have hall : ∀ b ∈ (btL u).take (c + 1), isD b := by
                     intro b hb
                     obtain ⟨j, hj, rfl⟩ := List.getElem_of_mem hb
                     rw [List.length_take] at hj
                     rw [List.getElem_take, btL_get]
                     by_cases e : j = c
                     · rw [e]; exact ⟨hd1, hd2⟩
                     · exact HD.out j (by omega)
                   have h5 := rdN_lt _ hall
                   have h6 : 10 ^ ((btL u).take (c + 1)).length ≤ 10 ^ 77 := Nat.pow_le_pow_right (by omega) (by rw [List.length_take]; omega)
                   show _ < _
                   rw [show pw 9 = 497323236409786642155382248146820840100456150797347717440463976893159497012533375533056 by decide]
                   omega
                 have hw1 : IntKind.u8.wrap (d : Int) = d := by rw [IntKind.wrap_u8]; omega
                 have hw2 : IntKind.i64.wrap (d : Int) = d := by rw [IntKind.wrap_i64]; omega
                 have J0 : MrI w wr.drew g s' o n cp ds (rdN ((btL u).take c)) := hI.drew
                 obtain ⟨c0, f0, c1, f1⟩ := hI.bs.cf2
                 have slt := hI.bs.lt
                 have hd9 : (d : Int) < 10 := by omega
                 have HDD : Hid (isD (bt u c)) := ⟨hd1, hd2⟩
                 have tok1 : True := trivial
                 clear hI hd HII
                 go_upto_region 13 with fail
                 --BEGINREG
                 go_region_with ((first
                   | (go_at_call 32; have _t := tok1; refine (int_any 10 _ (by decide) (by decide)).mono ?_; rintro e w5 ⟨s5, o5, n5, c5, d5, rfl, N5, hB⟩; have J5 := J0.step hB; obtain ⟨p0, pf0, p1, pf1⟩ := J5.bs.cf2; have pl := J5.bs.lt; clear hB tok1 _t)
                   | (go_at_call 52; refine (mul_any s' s5 o o5 n n5 cp c5 9 ds d5 _ _ _ J5.num (num_more N5 (by omega)) (by omega)).mono ?_; rintro e w6 ⟨s6, o6, n6, c6, d6, rfl, N6, hB⟩; have J6 := J5.step hB; clear hB N5)
                   | (go_at_call 32; refine (int_any d _ (by omega) (by omega)).mono ?_; rintro e w7 ⟨s7, o7, n7, c7, d7, rfl, N7, hB⟩; have J7 := J6.step hB; have M6 := N6.step hB; clear hB N6)
                   | (go_at_call 51; refine (add_any s6 s7 o6 o7 n6 n7 c6 c7 18 d6 d7 _ _ _ M6 (num_more N7 (by omega)) (by omega)).mono ?_; rintro e w8 ⟨s8, o8, n8, c8, d8, rfl, N8, hB⟩; have J8 := J7.step hB; obtain ⟨q0, qf0, q1, qf1⟩ := J8.bs.cf2; have ql := J8.bs.lt; clear hB M6 N7)))
                 --ENDREG
                 all_goals
                   have JJ : Hid (MrI w ((w8.setCell ⟨g, 0, none⟩ (.bool s8)).setCell ⟨g, 1, none⟩ (.slice o8 n8 c8)) g s8 o8 n8 c8 d8 (rdN ((btL u).take (c + 1)))) := J8.next (by rw [← hnx.out]; exact (show (((10 * rdN ((btL u).take c) + d : Nat) : Nat) : Int) = ((rdN ((btL u).take c) : Nat) : Int) * 10 + (d : Int) by omega) ▸ N8) hn2.out
                   clear J8 N8 q0 qf0 q1 qf1 ql
                   go_wp2
                   go_roundw
                   case rel => exact ⟨c + 1, _, _, _, _, _, by omega, by go_num, JJ.out, fun j hj => by
                     by_cases e : j = c
                     · rw [e]; exact HDD.out
                     · exact HD.out j (by omega)⟩
                   case measure => simp [intOf]; omega
               · have HN : Hid (¬ RdOkN N (btL s)) := fun h => hd (by
                   have h2 := ((rdOkN_iff hN).1 h).2
                   rw [← HU.out] at h2
                   exact btL_mem.1 h2 c hcs)
                 obtain ⟨d0, e0, d1, e1⟩ := hI.br.cf2
                 have dl := hI.br.lt
                 have HB := hI.below
                 clear hI
                 by_cases hd1 : 48 ≤ bt u c
                 · have hd3 : ¬ ((bt u c : Int) < 48) := by omega
                   have hd4 : (57 : Int) < (bt u c : Int) := by unfold isD at hd; omega
                   clear hd
                   go_wp2
                   refine bodyPost_ret (v := .tuple #[.agg #[.bool false, .slice none 0 0], .bool false]) (by simp [results, Tryd.results40, go_sem, d0, d1]) rfl ?_
                   exact Or.inr ⟨HN.out, rfl, (HB.setCell (p := ⟨w.heap.size, 0, none⟩) (Nat.le_refl _) _).setCell (p := ⟨w.heap.size, 1, none⟩) (Nat.le_refl _) _⟩
                 · have hd3 : (bt u c : Int) < 48 := by omega
                   clear hd
                   go_wp2
                   refine bodyPost_ret (v := .tuple #[.agg #[.bool false, .slice none 0 0], .bool false]) (by simp [results, Tryd.results40, go_sem, d0, d1]) rfl ?_
                   exact Or.inr ⟨HN.out, rfl, (HB.setCell (p := ⟨w.heap.size, 0, none⟩) (Nat.le_refl _) _).setCell (p := ⟨w.heap.size, 1, none⟩) (Nat.le_refl _) _⟩
             · obtain rfl : c = u.size := by omega
               have HY : Hid (RdOkN N (btL s)) := (rdOkN_iff hN).2 ⟨HT.out, by rw [← HU.out]; exact btL_mem.2 HD.out⟩
               have hlast : (btL u).take u.size = btL u := by rw [← btL_len, List.take_length]
               rw [hlast] at hI
               have hI2 : MrI w wr g s' o n cp ds (rdN (btL u)) := hI
               obtain ⟨c0, f0, c1, f1⟩ := hI.bs.cf2
               have slt := hI.bs.lt
               obtain ⟨d0, e0, d1, e1⟩ := hI.br.cf2
               have dl := hI.br.lt
               clear hI HII hlast
               cases b
               · have hz : Hid (((rdN (btL u) : Nat) : Int) = rdI (btL s)) := by
                   have h1 : ¬ (btL s).head? = some 45 := by simpa using HBB.out
                   show _ = _
                   unfold rdI
                   rw [if_neg h1, HU.out]
                 have NN : Hid (IsNum wr s' o n cp ds (rdI (btL s)) 9) := by rw [← hz.out]; exact hI2.num
                 have HB := hI2.below
                 have BR := hI2.br
                 clear hI2
                 go_wp2
                 refine bodyPost_ret (v := .tuple #[.agg #[.bool s', .slice o n cp], .bool true]) (by simp [results, Tryd.results40, go_sem, d0, d1]) rfl ?_
                 exact Or.inl ⟨HY.out, ⟨s', o, n, cp, ds, rfl, num_put NN.out BR _ _⟩, (HB.setCell (p := ⟨w.heap.size, 0, none⟩) (Nat.le_refl _) _).setCell (p := ⟨w.heap.size, 1, none⟩) (Nat.le_refl _) _⟩
               · have hz : Hid (-((rdN (btL u) : Nat) : Int) = rdI (btL s)) := by
                   have h1 : (btL s).head? = some 45 := by simpa using HBB.out
                   show _ = _
                   unfold rdI
                   rw [if_pos h1, HU.out]
                 have CN := neg_any s' o n cp ds _ _ wr hI2.num
                 rw [hz.out] at CN
                 go_wp2_with fail
                 refine CN.mono ?_
                 rintro e w5 ⟨s5, o5, n5, c5, d5, rfl, N5, hB⟩
                 have J5 := hI2.step hB
                 clear hB CN c0 f0 c1 f1 slt d0 e0 d1 e1 dl hI2
                 obtain ⟨c0, f0, c1, f1⟩ := J5.bs.cf2
                 have slt := J5.bs.lt
                 have N6 := num_put N5 J5.bs (.bool s5) (.slice o5 n5 c5)
                 have BR := J5.br.set2 (g := g) (v0 := .bool s5) (v1 := .slice o5 n5 c5) (by omega)
                 have BS := (J5.bs.setI 0 (by simp) (.bool s5)).setI 1 (by simp) (.slice o5 n5 c5)
                 have HB := (J5.below.setCell (p := ⟨g, 0, none⟩) (by show w.heap.size ≤ g; omega) (.bool s5)).setCell (p := ⟨g, 1, none⟩) (by show w.heap.size ≤ g; omega) (.slice o5 n5 c5)
                 have bsl := BS
                 clear J5 N5
                 go_upto_region 16 with fail
                 generalize ((w5.setCell ⟨g, 0, none⟩ (.bool s5)).setCell ⟨g, 1, none⟩ (.slice o5 n5 c5)) = W6 at *
                 clear c0 f0 c1 f1 slt
                 have c0 : W6.cell? ⟨g, 0, none⟩ = some (.bool s5) := BS.c 0 rfl
                 have c1 : W6.cell? ⟨g, 1, none⟩ = some (.slice o5 n5 c5) := BS.c 1 rfl
                 obtain ⟨d0, e0, d1, e1⟩ := BR.cf2
                 have dl := BR.lt
                 have NN : Hid (IsNum W6 s5 o5 n5 c5 d5 (rdI (btL s)) 9) := N6
                 clear N6 bsl BS
                 go_wp2
                 refine bodyPost_ret (v := .tuple #[.agg #[.bool s5, .slice o5 n5 c5], .bool true]) (by simp [results, Tryd.results40, go_sem, d0, d1]) rfl ?_
                 exact Or.inl ⟨HY.out, ⟨s5, o5, n5, c5, d5, rfl, num_put NN.out BR _ _⟩, (HB.setCell (p := ⟨w.heap.size, 0, none⟩) (Nat.le_refl _) _).setCell (p := ⟨w.heap.size, 1, none⟩) (Nat.le_refl _) _⟩
       · have HN : Hid (¬ RdOkN N (btL s)) := fun h => hT ((rdOkN_iff hN).1 h).1
         obtain ⟨d0, e0, d1, e1⟩ := BR0.out.cf2
         have dl := BR0.out.lt
         have HB := HB0.out
         by_cases h1 : 1 ≤ u.size
         · have i1 : ¬ ((u.size : Int) < 1) := by omega
           by_cases h2 : u.size ≤ N
           · have i2 : ¬ ((N : Int) < u.size) := by omega
             have hbt := bt_at h1
             have hlt := bt_lt u 0
             have h3 : bt u 0 = 48 ∧ ((btL s).head? = some 45 ∨ 1 < u.size) := Classical.byContradiction fun h3 => hT ⟨by rw [← HU.out]; intro h; have := btL_len u; rw [h] at this; simp at this; omega, by rw [← HU.out, btL_len]; exact h2, fun h => h3 ⟨by have := h.1; rw [← HU.out, btL_head h1] at this; simpa using this, by have := h.2; rw [← HU.out, btL_len] at this; exact this⟩⟩
             have hb0 : ((bt u 0 : Int) == 48) = true := by rw [h3.1]; rfl
             cases b
             · have h4 : 1 < u.size := by
                 rcases h3.2 with h | h
                 · exact absurd h (by simpa using HBB.out)
                 · exact h
               have i3 : (1 : Int) < u.size := by omega
               clear h3 hT
               go_wp2
               refine bodyPost_ret (v := .tuple #[.agg #[.bool false, .slice none 0 0], .bool false]) (by simp [results, Tryd.results40, go_sem, d0, d1]) rfl ?_
               exact Or.inr ⟨HN.out, rfl, (HB.setCell (p := ⟨w.heap.size, 0, none⟩) (Nat.le_refl _) _).setCell (p := ⟨w.heap.size, 1, none⟩) (Nat.le_refl _) _⟩
             · clear h3 hT
               go_wp2
               refine bodyPost_ret (v := .tuple #[.agg #[.bool false, .slice none 0 0], .bool false]) (by simp [results, Tryd.results40, go_sem, d0, d1]) rfl ?_
               exact Or.inr ⟨HN.out, rfl, (HB.setCell (p := ⟨w.heap.size, 0, none⟩) (Nat.le_refl _) _).setCell (p := ⟨w.heap.size, 1, none⟩) (Nat.le_refl _) _⟩
           · have i2 : (N : Int) < u.size := by omega
             clear hT
             go_wp2
             refine bodyPost_ret (v := .tuple #[.agg #[.bool false, .slice none 0 0], .bool false]) (by simp [results, Tryd.results40, go_sem, d0, d1]) rfl ?_
             exact Or.inr ⟨HN.out, rfl, (HB.setCell (p := ⟨w.heap.size, 0, none⟩) (Nat.le_refl _) _).setCell (p := ⟨w.heap.size, 1, none⟩) (Nat.le_refl _) _⟩
         · have i1 : (u.size : Int) < 1 := by omega
           clear hT
           go_wp2
           refine bodyPost_ret (v := .tuple #[.agg #[.bool false, .slice none 0 0], .bool false]) (by simp [results, Tryd.results40, go_sem, d0, d1]) rfl ?_
           exact Or.inr ⟨HN.out, rfl, (HB.setCell (p := ⟨w.heap.size, 0, none⟩) (Nat.le_refl _) _).setCell (p := ⟨w.heap.size, 1, none⟩) (Nat.le_refl _) _⟩
theorem cutM_tx (z : Int) : cutM (txL z) = dgs z.natAbs := by
 by_cases h : z < 0
 · rw [tx_neg h]
   unfold cutM
   rw [if_pos (by simp)]
   rfl
 · rw [tx_pos h, cutM_pos (head_dgs _)]
theorem sh_len {z : Int} (h : shB z = true) : (cutM (btL (bA (Lib.itoa z)))).length ≤ 15 := by
 rw [← txS_itoa, btL_txS, cutM_tx]
 have := of_decide_eq_true h
 exact dgs_len (by omega) (by omega)
theorem rd_sh {s : ByteArray} (h : RdOkN 15 (btL s)) : shB (rdI (btL s)) = true := by
 have h1 := rdN_lt (cutM (btL s)) h.1.1.2.2
 have h2 : 10 ^ (cutM (btL s)).length ≤ 10 ^ 15 := Nat.pow_le_pow_right (by omega) h.2
 have h3 : (rdI (btL s)).natAbs = rdN (cutM (btL s)) := by
   unfold rdI
   split <;> simp
 exact decide_eq_true (by omega)
theorem val_drop_le {ds : List Int} (h : Dig ds) : ∀ k, val (ds.drop k) ≤ val ds := by
 induction ds with
 | nil => intro k; simp [val]
 | cons d t ih =>
   intro k
   cases k with
   | zero => simp
   | succ k =>
     have hd := h d List.mem_cons_self
     have ht : Dig t := fun x hx => h x (List.mem_cons_of_mem _ hx)
     have h1 := ih ht k
     have h2 := val_nonneg ht
     rw [List.drop_succ_cons, val]
     omega
theorem val_drop {ds : List Int} {k : Nat} (h : k < ds.length) : val (ds.drop k) = ds[k] + 4294967296 * val (ds.drop (k + 1)) := by
 rw [List.drop_eq_getElem_cons h, val]
theorem dig_dropR {ds : List Int} (h : Dig ds) (k : Nat) : Dig (ds.drop k) := fun x hx => h x (List.mem_of_mem_drop hx)
set_option maxRecDepth 100000 in
set_option maxHeartbeats 4000000 in
theorem l6Int_any (s : ByteArray) (hm : s.size ≤ 9223372036854775807) (w : World) : Calls Tryd.prog 23 #[.string s] w (ShP s w) := by
 have C := l1ReadN_any 15 (by omega) s hm w
 clear hm
 go_enter Tryd.func23, Tryd.ntmps23
 go_wp2_with fail
 refine C.mono ?_
 rintro e w1 (⟨hok, ⟨sg, o, n, c, ds, rfl, N1⟩, hB⟩ | ⟨hno, rfl, hB⟩)
 · have HZ : Hid (shB (rdI (btL s)) = true) := rd_sh hok
   have HS : Hid (s = bA (Lib.itoa (rdI (btL s)))) := rd_bA hok.1
   have hzz := of_decide_eq_true (rd_sh hok)
   generalize rdI (btL s) = z at *
   have X := Blk.new w1 [.bool sg, .slice o n c] 62 rfl
   have HX : Below w1.heap.size w1 (w1.alloc (.cells #[.bool sg, .slice o n c] 62)) := (Below.refl _ _).alloc (Nat.le_refl _) _
   replace hB := hB.trans (HX.mono hB.size)
   have hrd := N1.rd.below HX (Nat.le_refl _)
   obtain ⟨hsg, hlen, -, -, hnrm, hval, hle⟩ := N1
   have HV : Hid (val ds = (z.natAbs : Int)) := hval
   have HD : Hid (Dig ds) := hnrm.1
   have HLn : Hid (ds.length = n) := hlen
   have hvz : val ds ≤ 999999999999999 := by omega
   have HVZ : Hid (val ds ≤ 999999999999999) := hvz
   have HSg : Hid (sg = decide (z < 0)) := hsg
   clear C hok hnrm hval hlen HX hvz hsg
   go_upto_region 5 with fail
   generalize w1.heap.size = P at *
   revert X
   rw [show ([.bool sg, .slice o n c] : List Value).toArray = #[.bool sg, .slice o n c] from rfl]
   intro X
   generalize (w1.alloc (.cells #[.bool sg, .slice o n c] 62)) = W1 at *
   have x1 := X.c 1 rfl
   have HR : Hid (Rd W1 o ds) := hrd
   have hnI : (n : Int) ≤ 9 := by omega
   clear hrd
   go_wp2_with fail
   clear x1
   go_loopw [6, 7] (fun x i wr => ∃ j : Nat, j ≤ n ∧ i = .int .i64 ((j : Int) - 1) ∧ x = .int .i64 (val (ds.drop j)) ∧ Below W1.heap.size W1 wr) (fun _ i _ => (intOf i + 1).toNat)
   case atStart => exact ⟨n, Nat.le_refl _, rfl, by rw [← HLn.out, List.drop_length]; rfl, Below.refl _ _⟩
   case round =>
     obtain ⟨j, hj, rfl, rfl, HBr⟩ := hrel
     have X2 := X.step HBr
     have x0 := X2.c 0 rfl; have x1 := X2.c 1 rfl
     by_cases hj0 : 0 < j
     · obtain ⟨k, rfl⟩ : ∃ k, j = k + 1 := ⟨j - 1, by omega⟩
       have hkl : k < ds.length := by rw [HLn.out]; omega
       obtain ⟨b, off, rfl, hb, hcell⟩ := HR.out k hkl
       have q0 := (HBr.cell (p := ⟨b, off + k, none⟩) hb).trans hcell
       obtain ⟨d0, d1⟩ := dig_at HD.out k hkl
       have hvd := val_drop hkl
       have hv1 := val_drop_le HD.out k
       have hv2 := val_nonneg (dig_dropR HD.out (k + 1))
       have hv3 := HVZ.out
       have HVd : Hid (val (ds.drop k) = ds[k] + 4294967296 * val (ds.drop (k + 1))) := hvd
       have hki : ((k + 1 : Nat) : Int) - 1 = (k : Int) := by omega
       have hkI : (k : Int) ≥ 0 := by omega
       have hkn : (k : Int) < n := by omega
       have hnn : (n : Int) ≤ 9 := by omega
       rw [hki]
       generalize ds[k] = d at *
       generalize val (ds.drop (k + 1)) = v at *
       rw [hvd] at hv1
       have h1 : IntKind.i64.wrap (v * 4294967296) = v * 4294967296 := by rw [IntKind.wrap_i64]; omega
       have h2 : IntKind.i64.wrap (v * 4294967296 + d) = v * 4294967296 + d := by rw [IntKind.wrap_i64]; omega
       have h3 : IntKind.i64.wrap d = d := by rw [IntKind.wrap_i64]; omega
       have h4 : IntKind.i64.wrap ((k : Int) - 1) = (k : Int) - 1 := by rw [IntKind.wrap_i64]; omega
       clear hcell hvd hv1 hv3 hb X2 x0
       go_wp2
       go_roundw
       case rel => exact ⟨k, by omega, by first | rfl | go_num, by rw [HVd.out]; congr 1; omega, HBr⟩
       case measure => simp [intOf]
     · obtain rfl : j = 0 := by omega
       have hHB := hB.trans (HBr.mono hB.size)
       have HV0 : Hid (val (ds.drop 0) = (z.natAbs : Int)) := by rw [List.drop_zero]; exact HV.out
       have hza : (z.natAbs : Int) ≤ 999999999999999 := by omega
       rw [HV0.out]
       clear X2 x1 HR HV HD HLn HVZ HV0 HBr hB
       by_cases hzn : z < 0
       · obtain rfl : sg = true := by rw [HSg.out]; exact decide_eq_true hzn
         have hz1 : IntKind.i64.wrap (-(z.natAbs : Int)) = z := by rw [IntKind.wrap_i64]; omega
         clear HSg
         go_wp2
         refine bodyPost_ret (v := .tuple #[.int .i64 z, .bool true]) (by simp [results, Tryd.results23, go_sem]) rfl ?_
         exact ⟨hHB, Or.inl ⟨z, HZ.out, HS.out, rfl⟩⟩
       · obtain rfl : sg = false := by rw [HSg.out]; exact decide_eq_false hzn
         have hz1 : (z.natAbs : Int) = z := by omega
         clear HSg
         rw [hz1]
         go_wp2
         refine bodyPost_ret (v := .tuple #[.int .i64 z, .bool true]) (by simp [results, Tryd.results23, go_sem]) rfl ?_
         exact ⟨hHB, Or.inl ⟨z, HZ.out, HS.out, rfl⟩⟩
 · have HN : Hid (∀ z : Int, shB z = true → s ≠ bA (Lib.itoa z)) := fun z hz e => by
     refine hno ⟨?_, ?_⟩
     · rw [e]; exact (bA_rd hz).1
     · rw [e]; exact sh_len hz
   have HBF := hB.alloc hB.size (.cells #[.bool false, .slice none 0 0] 62)
   clear C hno hB
   go_wp2
   refine bodyPost_ret (v := .tuple #[.int .i64 0, .bool false]) (by simp [results, Tryd.results23, go_sem]) rfl ?_
   exact ⟨HBF, Or.inr ⟨HN.out, rfl⟩⟩
theorem join_app {sep : List UInt8} {b : List (List UInt8)} (hb : b ≠ []) : ∀ {a : List (List UInt8)}, a ≠ [] → Lib.join (a ++ b) sep = Lib.join a sep ++ sep ++ Lib.join b sep
 | [], h => absurd rfl h
 | [x], _ => by
   obtain ⟨y, r, rfl⟩ : ∃ y r, b = y :: r := by
     cases b with
     | nil => exact absurd rfl hb
     | cons y r => exact ⟨y, r, rfl⟩
   rw [List.singleton_append, join_two, Lib.join_one]
 | x :: y :: r, _ => by
   have ih := join_app (sep := sep) hb (a := y :: r) (by simp)
   rw [List.cons_append, List.cons_append, join_two, join_two]
   rw [List.cons_append] at ih
   rw [ih]
   simp
theorem fold_word {x : List UInt8} (h : (32 : UInt8) ∉ x) : ∀ acc p, x.foldl wdF (acc, p) = (acc, p ++ x) := by
 induction x with
 | nil => intro acc p; simp
 | cons b x ih =>
   intro acc p
   have hb : b ≠ 32 := fun e => h (by rw [e]; exact List.mem_cons_self)
   rw [List.foldl_cons, show wdF (acc, p) b = (acc, p ++ [b]) by unfold wdF; rw [if_neg hb], ih (fun hx => h (List.mem_cons_of_mem _ hx))]
   simp
theorem words_join : ∀ {ts : List (List UInt8)}, ts ≠ [] → (∀ x ∈ ts, x ≠ [] ∧ (32 : UInt8) ∉ x) → ∀ acc, (wdF ((Lib.join ts [32]).foldl wdF (acc, [])) 32).1 = acc ++ ts
 | [], h, _, _ => absurd rfl h
 | [x], _, h, acc => by
   obtain ⟨h1, h2⟩ := h x List.mem_cons_self
   rw [Lib.join_one, fold_word h2]
   unfold wdF
   rw [if_pos rfl, List.nil_append, if_neg h1]
 | x :: y :: r, _, h, acc => by
   obtain ⟨h1, h2⟩ := h x List.mem_cons_self
   have ih := words_join (ts := y :: r) (by simp) (fun z hz => h z (List.mem_cons_of_mem _ hz)) (acc ++ [x])
   rw [join_two, List.foldl_append, List.foldl_append, fold_word h2, List.nil_append, List.foldl_cons, List.foldl_nil, show wdF (acc, x) 32 = (acc ++ [x], []) by unfold wdF; rw [if_pos rfl, if_neg h1], ih]
   simp
def tkM : List (List Zz2) → List (List UInt8)
 | [] => []
 | [M] => ptM M
 | M :: N :: R => ptM M ++ [47] :: tkM (N :: R)
theorem tkM_two (M N : List Zz2) (R : List (List Zz2)) : tkM (M :: N :: R) = ptM M ++ ([47] :: tkM (N :: R)) := rfl
theorem tkM_ne : ∀ {Q : List (List Zz2)}, Q ≠ [] → (∀ M ∈ Q, M ≠ []) → tkM Q ≠ []
 | [], h, _ => absurd rfl h
 | [M], _, h => ptM_ne (h M List.mem_cons_self)
 | M :: N :: R, _, _ => by rw [tkM_two]; simp
theorem tkM_mem : ∀ {Q : List (List Zz2)} {x : List UInt8}, x ∈ tkM Q → x ≠ [] ∧ (32 : UInt8) ∉ x
 | [], x, h => by cases h
 | [M], x, h => by
   obtain ⟨z, rfl⟩ := ptM_mem (M := M) h
   exact ⟨itoa_ne z, itoa_blank z⟩
 | M :: N :: R, x, h => by
   rw [tkM_two] at h
   rcases List.mem_append.1 h with h | h
   · obtain ⟨z, rfl⟩ := ptM_mem h
     exact ⟨itoa_ne z, itoa_blank z⟩
   · rcases List.mem_cons.1 h with rfl | h
     · simp
     · exact tkM_mem h
theorem join_tkM : ∀ {Q : List (List Zz2)}, (∀ M ∈ Q, M ≠ []) → Lib.join (tkM Q) [32] = lyM Q
 | [], _ => rfl
 | [M], _ => by
   unfold lyM
   rw [List.map_cons, List.map_nil, Lib.join_one]
   rfl
 | M :: N :: R, h => by
   have ih := join_tkM (Q := N :: R) fun K hK => h K (List.mem_cons_of_mem _ hK)
   have hn := tkM_ne (Q := N :: R) (by simp) fun K hK => h K (List.mem_cons_of_mem _ hK)
   have h1 : Lib.join ([47] :: tkM (N :: R)) [32] = [47] ++ [32] ++ Lib.join (tkM (N :: R)) [32] := by
     rw [← List.singleton_append, join_app hn (by simp), Lib.join_one]
   rw [tkM_two, join_app (by simp) (ptM_ne (h M List.mem_cons_self)), h1, ih]
   unfold lyM
   simp only [List.map_cons]
   rw [join_two]
   unfold rgM
   simp
theorem words_lyM {Q : List (List Zz2)} (h : OkM Q) : wdL (lyM Q) = tkM Q := by
 have h1 : ∀ M ∈ Q, M ≠ [] := fun M hM => (h.rg M hM).1
 unfold wdL wdS
 rw [← join_tkM h1, words_join (tkM_ne h.ne h1) (fun x hx => tkM_mem hx) []]
 rfl
abbrev St3 := List (List Zz2) × List Zz2 × Option Int
def Stp (st : St3) (x : List UInt8) (st' : St3) : Prop :=
 (x = [47] ∧ st.2.2 = none ∧ st' = (st.1 ++ [st.2.1], [], none)) ∨ (∃ z : Int, shB z = true ∧ x = Lib.itoa z ∧ ((st.2.2 = none ∧ st' = (st.1, st.2.1, some z)) ∨ ∃ y, st.2.2 = some y ∧ st' = (st.1, st.2.1 ++ [(y, z)], none)))
theorem itoa_not (z : Int) : Lib.itoa z ≠ [47] := fun e => itoa_slash z (by rw [e]; simp)
theorem Stp.one {st a b : St3} {x : List UInt8} (h : Stp st x a) (k : Stp st x b) : a = b := by
 rcases h with ⟨h1, h2, rfl⟩ | ⟨z, hz, h1, h2⟩
 · rcases k with ⟨_, _, rfl⟩ | ⟨u, _, k1, _⟩
   · rfl
   · exact absurd (k1.symm.trans h1) (itoa_not u)
 · rcases k with ⟨k1, _, _⟩ | ⟨u, _, k1, k2⟩
   · exact absurd (h1.symm.trans k1) (itoa_not z)
   · obtain rfl := itoa_inj (h1.symm.trans k1)
     rcases h2 with ⟨h3, rfl⟩ | ⟨y, h3, rfl⟩
     · rcases k2 with ⟨_, rfl⟩ | ⟨y, k3, _⟩
       · rfl
       · rw [h3] at k3; cases k3
     · rcases k2 with ⟨k3, _⟩ | ⟨y', k3, rfl⟩
       · rw [h3] at k3; cases k3
       · rw [h3] at k3
         obtain rfl := Option.some.inj k3
         rfl
def Run : St3 → List (List UInt8) → St3 → Prop
 | st, [], st' => st' = st
 | st, x :: r, st' => ∃ m, Stp st x m ∧ Run m r st'
theorem Run.one : ∀ {l : List (List UInt8)} {st a b : St3}, Run st l a → Run st l b → a = b
 | [], _, _, _, h, k => h.trans k.symm
 | x :: r, st, a, b, ⟨m, h1, h2⟩, ⟨n, k1, k2⟩ => by
   obtain rfl := h1.one k1
   exact Run.one h2 k2
theorem Run.app : ∀ {l r : List (List UInt8)} {st m st' : St3}, Run st l m → Run m r st' → Run st (l ++ r) st'
 | [], r, st, m, st', h, k => by
   obtain rfl : m = st := h
   exact k
 | x :: l, r, st, m, st', ⟨n, h1, h2⟩, k => ⟨n, h1, h2.app k⟩
theorem Run.parts : ∀ {l r : List (List UInt8)} {st st' : St3}, Run st (l ++ r) st' → ∃ m, Run st l m ∧ Run m r st'
 | [], r, st, st', h => ⟨st, rfl, h⟩
 | x :: l, r, st, st', ⟨n, h1, h2⟩ => by
   obtain ⟨m, k1, k2⟩ := Run.parts h2
   exact ⟨m, ⟨n, h1, k1⟩, k2⟩
theorem Run.snoc {l : List (List UInt8)} {x : List UInt8} {st m st' : St3} (h : Run st l m) (k : Stp m x st') : Run st (l ++ [x]) st' := h.app ⟨st', k, rfl⟩
theorem run_ptM (Q : List (List Zz2)) : ∀ (M K : List Zz2), ShM M → Run (Q, K, none) (ptM M) (Q, K ++ M, none)
 | [], K, _ => by
   rw [List.append_nil]
   exact rfl
 | t :: M, K, h => by
   obtain ⟨h1, h2⟩ := h t List.mem_cons_self
   have ih := run_ptM Q M (K ++ [t]) fun u hu => h u (List.mem_cons_of_mem _ hu)
   rw [List.append_assoc, List.singleton_append] at ih
   exact ⟨(Q, K, some t.1), Or.inr ⟨t.1, h1, rfl, Or.inl ⟨rfl, rfl⟩⟩, (Q, K ++ [t], none), Or.inr ⟨t.2, h2, rfl, Or.inr ⟨t.1, rfl, rfl⟩⟩, ih⟩
theorem run_tkM : ∀ (Q : List (List Zz2)) (P : List (List Zz2)), Q ≠ [] → (∀ M ∈ Q, ShM M) → ∃ R M, P ++ Q = R ++ [M] ∧ Run (P, [], none) (tkM Q) (R, M, none)
 | [], _, h, _ => absurd rfl h
 | [M], P, _, h => ⟨P, M, rfl, by have := run_ptM P M [] (h M List.mem_cons_self); rwa [List.nil_append] at this⟩
 | M :: N :: Q, P, _, h => by
   obtain ⟨R, K, e, hr⟩ := run_tkM (N :: Q) (P ++ [M]) (by simp) fun K hK => h K (List.mem_cons_of_mem _ hK)
   have h1 := run_ptM P M [] (h M List.mem_cons_self)
   rw [List.nil_append] at h1
   refine ⟨R, K, by rw [← e]; simp, ?_⟩
   rw [tkM_two]
   exact h1.app ⟨(P ++ [M], [], none), Or.inl ⟨rfl, rfl, rfl⟩, hr⟩
theorem run_next {Q : List (List Zz2)} (h : OkM Q) {c : Nat} {st : St3} (hr : Run ([], [], none) ((tkM Q).take c) st) {x : List UInt8} (hx : (tkM Q)[c]? = some x) : ∃ st', Stp st x st' := by
 obtain ⟨R, M, _, hf⟩ := run_tkM Q [] h.ne fun M hM => (h.rg M hM).2
 rw [← List.take_append_drop c (tkM Q)] at hf
 obtain ⟨m, h1, h2⟩ := hf.parts
 obtain rfl := hr.one h1
 rw [List.drop_eq_getElem_cons (List.getElem?_eq_some_iff.1 hx).1, (List.getElem?_eq_some_iff.1 hx).2] at h2
 obtain ⟨n, h3, _⟩ := h2
 exact ⟨n, h3⟩
theorem run_end {Q : List (List Zz2)} (h : OkM Q) {st : St3} (hr : Run ([], [], none) (tkM Q) st) : st.2.2 = none ∧ st.1 ++ [st.2.1] = Q := by
 obtain ⟨R, M, e, hf⟩ := run_tkM Q [] h.ne fun M hM => (h.rg M hM).2
 obtain rfl := hr.one hf
 exact ⟨rfl, e.symm⟩
theorem row_setR {w : World} {base g n cap : Nat} {e : TypeId} {xs : List Value} (h : w.ownsRow base e 1 (.slice (some ⟨g, 0, none⟩) n cap) n xs) (j : Nat) (u : Value) : (w.setCell ⟨g, j, none⟩ u).ownsRow base e 1 (.slice (some ⟨g, 0, none⟩) n cap) n (xs.set j u) := by
 refine ⟨by rw [List.length_set]; exact h.1, ?_⟩
 rcases h.2 with ⟨h', _⟩ | ⟨g', cap', cur, h', hb, hg, h1, h2, h3, h4⟩
 · cases h'
 · cases h'
   refine .inr ⟨g, cap, cur.setIfInBounds j u, rfl, hb, ?_, h1, h2, by simpa using h3, ?_⟩
   · simp [World.setCell, Array.getElem?_modify, hg]
   · rw [← h4]
     simp [List.take_set]
theorem ownS_setN {w : World} {base n : Nat} {e : TypeId} {size : Nat} {v : Value} {xs : List Value} (h : w.ownsRow base e size v n xs) {p : Addr} (hp : v.ownBlock ≠ some p.block) (u : Value) : (w.setCell p u).ownsRow base e size v n xs := by
 rcases h with ⟨h0, ⟨h1, h2⟩ | ⟨g, cap, cur, h1, h2, h3, h4, h5, h6, h7⟩⟩
 · exact ⟨h0, Or.inl ⟨h1, h2⟩⟩
 · refine ⟨h0, Or.inr ⟨g, cap, cur, h1, h2, ?_, h4, h5, h6, h7⟩⟩
   rw [heap_setCell_other _ _ _ _ (fun e => hp (by rw [h1]; exact congrArg some e))]
   exact h3
abbrev El := Value × List Zz2
def RvO (b : Nat) (w : World) (g cap : Nat) (E : List El) : Prop :=
 w.ownsRow b 39 1 (.slice (some ⟨g, 0, none⟩) E.length cap) E.length (E.map (·.1)) ∧ (∀ e ∈ E, w.ownsRow b 41 2 e.1 e.2.length (spM e.2) ∧ e.1.ownBlock ≠ some g) ∧ E.Pairwise fun a c => a.1.ownBlock = none ∨ a.1.ownBlock ≠ c.1.ownBlock
theorem RvO.step {b g cap : Nat} {w w' : World} {E : List El} (h : RvO b w g cap E) (hB : Below w.heap.size w w') : RvO b w' g cap E :=
 ⟨ownS_step h.1 hB, fun d hd => ⟨ownS_step (h.2.1 d hd).1 hB, (h.2.1 d hd).2⟩, h.2.2⟩
theorem RvO.gl {b g cap : Nat} {w : World} {E : List El} (h : RvO b w g cap E) : b ≤ g ∧ g < w.heap.size := h.1.lt g rfl
theorem RvO.add {b g cap g' cap' : Nat} {w w' : World} {E : List El} (h : RvO b w g cap E) (ho : w'.ownsRow b 39 1 (.slice (some ⟨g', 0, none⟩) (E.length + 1) cap') (E.length + 1) (E.map (·.1) ++ [.slice none 0 0])) (hg : w.grownBy w' (some g)) (hb : g' = g ∨ g' = w.heap.size) : RvO b w' g' cap' (E ++ [(.slice none 0 0, [])]) := by
 refine ⟨by rw [List.map_append, List.length_append]; exact ho, fun e he => ?_, ?_⟩
 · rcases List.mem_append.1 he with he | he
   · obtain ⟨h1, h2⟩ := h.2.1 e he
     refine ⟨h1.kept hg (Or.inr h2), ?_⟩
     rcases hb with rfl | rfl
     · exact h2
     · intro e2
       have := (h1.lt _ e2).2
       omega
   · obtain rfl : e = (.slice none 0 0, []) := by simpa using he
     exact ⟨World.ownsRow_nil _ _ _ _, by intro e; cases e⟩
 · rw [List.pairwise_append]
   refine ⟨h.2.2, by simp, fun a ha c hc => ?_⟩
   obtain rfl : c = (.slice none 0 0, []) := by simpa using hc
   cases h3 : a.1.ownBlock with
   | none => exact Or.inl rfl
   | some k => exact Or.inr (by intro e; cases e)
theorem RvO.put {b g cap : Nat} {w w1 : World} {E0 : List El} {u u' : Value} {M M' : List Zz2} (h : RvO b w g cap (E0 ++ [(u, M)])) (ho : w1.ownsRow b 41 2 u' M'.length (spM M')) (hg : w.grownBy w1 u.ownBlock) (hb : u'.ownBlock = u.ownBlock ∨ u'.ownBlock = some w.heap.size) : RvO b (w1.setCell ⟨g, E0.length, none⟩ u') g cap (E0 ++ [(u', M')]) := by
 have hu := h.2.1 (u, M) (by simp)
 have hgl := h.gl
 have hE := List.pairwise_append.1 h.2.2
 have hn : u'.ownBlock ≠ some g := by
   rcases hb with e | e
   · rw [e]; exact hu.2
   · rw [e]; intro e2; have := Option.some.inj e2; omega
 refine ⟨?_, fun e he => ?_, ?_⟩
 · have h1 : w1.ownsRow b 39 1 (.slice (some ⟨g, 0, none⟩) (E0 ++ [(u, M)]).length cap) (E0 ++ [(u, M)]).length ((E0 ++ [(u, M)]).map (·.1)) := h.1.kept hg (Or.inr fun e => hu.2 e.symm)
   have h2 := row_setR h1 E0.length u'
   have h3 : ((E0 ++ [(u, M)]).map (·.1)).set E0.length u' = (E0 ++ [(u', M')]).map (·.1) := by simp
   rw [h3] at h2
   rw [List.length_append] at h2 ⊢
   exact h2
 · rcases List.mem_append.1 he with he | he
   · obtain ⟨h1, h2⟩ := h.2.1 e (List.mem_append_left _ he)
     have h3 := hE.2.2 e he (u, M) (by simp)
     exact ⟨ownS_setN (h1.kept hg h3) h2 u', h2⟩
   · obtain rfl : e = (u', M') := by simpa using he
     exact ⟨ownS_setN ho hn u', hn⟩
 · rw [List.pairwise_append]
   refine ⟨hE.1, by simp, fun a ha c hc => ?_⟩
   obtain rfl : c = (u', M') := by simpa using hc
   have h1 := (h.2.1 a (List.mem_append_left _ ha)).1
   rcases hb with e | e
   · show _ ∨ a.1.ownBlock ≠ u'.ownBlock
     rw [e]
     exact hE.2.2 a ha (u, M) (by simp)
   · cases h3 : a.1.ownBlock with
     | none => exact Or.inl rfl
     | some k =>
       refine Or.inr ?_
       show some k ≠ u'.ownBlock
       rw [e]
       intro e2
       have h4 := (h1.lt k h3).2
       have := Option.some.inj e2
       omega
def vS : Value → Option Addr × Nat
 | .slice ao _ c => (ao, c)
 | _ => (none, 0)
def eS (E : List El) (i : Nat) : Option Addr × Nat := vS (E.getD i (.slice none 0 0, [])).1
def eL (E : List El) (i : Nat) : Nat := (E.getD i (.slice none 0 0, [])).2.length
def eQ (E : List El) (i : Nat) : Ps := fun j => (E.getD i (.slice none 0 0, [])).2.getD j (0, 0)
theorem RvO.rgIn {b g cap : Nat} {w : World} {E : List El} (h : RvO b w g cap E) : RgIn w (some ⟨g, 0, none⟩) E.length (eS E) (eL E) (eQ E) := fun i hi => by
 obtain ⟨d, hd⟩ : ∃ d, E[i]? = some d := ⟨E[i], List.getElem?_eq_getElem hi⟩
 have hdm := List.mem_of_getElem? hd
 have hg : E.getD i (.slice none 0 0, []) = d := by rw [List.getD_eq_getElem?_getD, hd]; rfl
 have h8 := (h.2.1 d hdm).1
 refine ⟨g, 0, rfl, h.gl.2, ?_, fun j hj => ?_⟩
 · have h9 := h.1.cells rfl i d.1 (by rw [List.getElem?_map, hd]; rfl)
   rw [Addr.add_lit] at h9
   unfold eS eL
   rw [hg, h9]
   rcases h8.2 with ⟨e, h0⟩ | ⟨gd, cd, cur, e, _⟩
   · rw [e, h0]; rfl
   · rw [e]; rfl
 · unfold eS eQ
   unfold eL at hj
   rw [hg] at hj ⊢
   obtain ⟨t, ht⟩ : ∃ t, d.2[j]? = some t := ⟨d.2[j], List.getElem?_eq_getElem hj⟩
   rcases h8.2 with ⟨e, h0⟩ | ⟨gd, cd, cur, e, _⟩
   · omega
   · have h7 := spM_at ht
     rw [e] at h8
     have c0 := h8.cells rfl (j * 2) _ h7.1
     have c1 := h8.cells rfl (j * 2 + 1) _ h7.2
     rw [Addr.add_lit] at c0 c1
     refine ⟨gd, 0, by rw [e]; rfl, (h8.lt gd rfl).2, ?_, ?_⟩
     · rw [List.getD_eq_getElem?_getD, ht]
       exact c0
     · rw [List.getD_eq_getElem?_getD, ht]
       rw [Nat.add_assoc]
       exact c1
theorem RvO.rsO {b g cap : Nat} {w : World} {E : List El} (h : RvO b w g cap E) (hne : ∀ e ∈ E, e.2 ≠ []) : ∃ D, spD D = E.map (·.2) ∧ RsO b w (.slice (some ⟨g, 0, none⟩) E.length cap) D := by
 have hf : ∀ e ∈ E, ∃ gd cd, e.1 = .slice (some ⟨gd, 0, none⟩) e.2.length cd := fun e he => by
   rcases (h.2.1 e he).1.2 with ⟨_, h0⟩ | ⟨gd, cd, _, h1, _⟩
   · exact absurd (List.length_eq_zero_iff.1 h0) (hne e he)
   · exact ⟨gd, cd, h1⟩
 refine ⟨E.map fun e => ((e.1.ownBlock.getD 0, (vS e.1).2, e.2) : Rd3), ?_, ?_, fun d hd => ?_, ?_⟩
 · unfold spD
   rw [List.map_map]
   rfl
 · rw [List.length_map, List.map_map]
   have e : E.map (slD ∘ fun e => ((e.1.ownBlock.getD 0, (vS e.1).2, e.2) : Rd3)) = E.map (·.1) := List.map_congr_left fun e he => by
     obtain ⟨gd, cd, h1⟩ := hf e he
     show slD ((e.1.ownBlock.getD 0, (vS e.1).2, e.2) : Rd3) = e.1
     unfold slD
     rw [h1]
     rfl
   rw [e]
   exact h.1
 · obtain ⟨e, he, rfl⟩ := List.mem_map.1 hd
   obtain ⟨gd, cd, h1⟩ := hf e he
   have h2 := h.2.1 e he
   have h3 : slD ((e.1.ownBlock.getD 0, (vS e.1).2, e.2) : Rd3) = e.1 := by
     unfold slD
     rw [h1]
     rfl
   refine ⟨by rw [h3]; exact h2.1, fun e2 => ?_⟩
   rw [h1] at h2
   refine h2.2 ?_
   rw [h1] at e2
   exact e2.symm
 · rw [List.map_map, List.Nodup, List.pairwise_map]
   refine h.2.2.imp_of_mem fun {a c} ha hc hac => ?_
   obtain ⟨ga, ca, h1⟩ := hf a ha
   obtain ⟨gc, cc, h2⟩ := hf c hc
   show a.1.ownBlock.getD 0 ≠ c.1.ownBlock.getD 0
   rw [h1, h2] at hac ⊢
   rcases hac with h3 | h3
   · cases h3
   · exact fun e => h3 (congrArg some e)
theorem ptU_list (M : List Zz2) : ∀ k, k ≤ M.length → ptU (fun j => M.getD j (0, 0)) k = ptM (M.take k)
 | 0, _ => by simp [ptU, ptM]
 | k + 1, h => by
   obtain ⟨t, ht⟩ : ∃ t, M[k]? = some t := ⟨M[k], List.getElem?_eq_getElem h⟩
   have hg : M.getD k (0, 0) = t := by rw [List.getD_eq_getElem?_getD, ht]; rfl
   rw [ptU, ptU_list M k (by omega), List.take_add_one, ht, hg]
   exact (ptM_snoc _ _).symm
theorem rgU_list (M : List Zz2) : rgU (fun j => M.getD j (0, 0)) M.length = rgM M := by
 rw [← ptU_join, ptU_list M _ (Nat.le_refl _), List.take_length]
 rfl
theorem htB_list (M : List Zz2) : htB M.length (fun j => M.getD j (0, 0)) = true ↔ M ≠ [] ∧ ShM M := by
 rw [htB_iff]
 constructor
 · rintro ⟨h1, h2⟩
   refine ⟨List.length_pos_iff.1 h1, fun t ht => ?_⟩
   obtain ⟨i, hi, rfl⟩ := List.getElem_of_mem ht
   have := h2 i hi
   rwa [List.getD_eq_getElem?_getD, List.getElem?_eq_getElem hi] at this
 · rintro ⟨h1, h2⟩
   refine ⟨List.length_pos_iff.2 h1, fun i hi => ?_⟩
   rw [List.getD_eq_getElem?_getD, List.getElem?_eq_getElem hi]
   exact h2 _ (List.getElem_mem hi)
theorem eG {E : List El} {i : Nat} {d : El} (h : E[i]? = some d) : E.getD i (.slice none 0 0, []) = d := by rw [List.getD_eq_getElem?_getD, h]; rfl
theorem smR_eL (E : List El) : ∀ c, c ≤ E.length → smR (eL E) c = smM ((E.map (·.2)).take c)
 | 0, _ => by simp [smR, smM]
 | c + 1, h => by
   obtain ⟨d, hd⟩ : ∃ d, E[c]? = some d := ⟨E[c], List.getElem?_eq_getElem h⟩
   rw [smR, smR_eL E c (by omega), List.take_add_one, List.getElem?_map, hd]
   unfold eL
   rw [eG hd]
   simp [smM]
theorem smR_eAll (E : List El) : smR (eL E) E.length = smM (E.map (·.2)) := by
 rw [smR_eL E _ (Nat.le_refl _)]
 rw [show E.length = (E.map (·.2)).length by simp, List.take_length]
theorem hvB_list {E : List El} (hE : E ≠ []) : hvB E.length (eL E) (eQ E) = true ↔ OkM (E.map (·.2)) := by
 rw [hvB_iff, smR_eAll]
 constructor
 · rintro ⟨⟨h1, h2⟩, h3⟩
   refine ⟨by simpa using hE, fun M hM => ?_, by rw [List.length_map]; exact h1, h2⟩
   obtain ⟨e, he, rfl⟩ := List.mem_map.1 hM
   obtain ⟨i, hi, rfl⟩ := List.getElem_of_mem he
   have h4 := h3 i hi
   unfold eL eQ at h4
   rw [eG (List.getElem?_eq_getElem hi)] at h4
   exact (htB_list _).1 h4
 · intro h
   refine ⟨⟨by have := h.n6; rwa [List.length_map] at this, h.n20⟩, fun i hi => ?_⟩
   unfold eL eQ
   rw [eG (List.getElem?_eq_getElem hi)]
   exact (htB_list _).2 (h.rg _ (List.mem_map_of_mem (List.getElem_mem hi)))
theorem lyU_list (E : List El) : lyU (eL E) (eQ E) E.length = lyM (E.map (·.2)) := by
 rw [← rtU_join]
 unfold lyM rtU
 congr 1
 apply List.ext_getElem?
 intro i
 rw [List.getElem?_map, List.getElem?_map, List.getElem?_map]
 rcases Nat.lt_or_ge i E.length with h | h
 · rw [List.getElem?_range h, List.getElem?_eq_getElem h]
   show some (rgU (eQ E i) (eL E i)) = some (rgM E[i].2)
   unfold eQ eL
   rw [eG (List.getElem?_eq_getElem h)]
   exact congrArg some (rgU_list _)
 · rw [List.getElem?_eq_none (by simpa using h), List.getElem?_eq_none h]
   rfl
theorem ltU_list {E : List El} (hE : E ≠ []) : (OkM (E.map (·.2)) ∧ ltU E.length (eL E) (eQ E) = lyM (E.map (·.2))) ∨ (¬ OkM (E.map (·.2)) ∧ ltU E.length (eL E) (eQ E) = []) := by
 have h0 : ¬ E.length = 0 := fun e => hE (List.length_eq_zero_iff.1 e)
 by_cases h : OkM (E.map (·.2))
 · refine Or.inl ⟨h, ?_⟩
   unfold ltU
   rw [if_neg h0, if_pos ((hvB_list hE).2 h), lyU_list]
 · refine Or.inr ⟨h, ?_⟩
   unfold ltU
   rw [if_neg h0, if_neg (fun e => h ((hvB_list hE).1 e))]
end Go.Proofs.YtjcpdihdlklapaaDoor
