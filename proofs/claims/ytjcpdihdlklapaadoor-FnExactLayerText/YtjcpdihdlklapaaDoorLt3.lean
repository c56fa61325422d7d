/- Part 3 of the walks that the proof leans on. -/
import Derived.Test.YtjcpdihdlklapaaDoorLt2
import Derived.Test.YtjcpdihdlklapaaDoorLt1
import Derived.SizedLaws
import Derived.Deep.Slices
namespace Go.Proofs.YtjcpdihdlklapaaDoor
open Go.RowKit
theorem bA_size (l : List UInt8) : (bA l).size = l.length := by simp [bA, ByteArray.size]
theorem itoa_size {z : Int} (h : shB z = true) : (bA (Lib.itoa z)).size ≤ 16 := by
 rw [bA_size]
 exact itoa_len (of_decide_eq_true h)
theorem lyU_le {L : Nat → Nat} {q : Nat → Ps} : ∀ c, (∀ i, i < c → htB (L i) (q i) = true) → (lyU L q c).length ≤ smR L c * 34 + c * 3
 | 0, _ => by simp [lyU]
 | c + 1, h => by
   have h1 := lyU_le c fun i hi => h i (by omega)
   have h2 := rgU_le (htB_iff.1 (h c (by omega))).2
   have h3 : (lyU L q (c + 1)).length ≤ (lyU L q c).length + 3 + (rgU (q c) (L c)).length := by
     rw [lyU, List.length_append]
     split
     · simp
     · simp
   rw [smR]
   omega
theorem stU_le {L : Nat → Nat} {q : Nat → Ps} {c k : Nat} (h : ∀ i, i < c → htB (L i) (q i) = true) (hk : ∀ j, j < k → shB (q c j).1 = true ∧ shB (q c j).2 = true) : (stU L q c k).length ≤ smR L c * 34 + c * 3 + 3 + k * 34 := by
 have h1 := lyU_le c h
 have h2 := rgU_le hk
 unfold stU
 split
 · split <;> simp; omega
 · split <;> simp <;> omega
def VltE (P : Nat) (x y : Int) (s : List UInt8) (_B : Nat) : Nat → Value → World → Prop
 | 0, v, _ => v = .string (bA s)
 | 1, v, _ => v = .pointer (some ⟨P, 0, none⟩)
 | 2, v, _ => v = .int .i64 x
 | 3, v, _ => v = .string (bA (Lib.itoa x))
 | 4, v, _ => v = .string (bA s ++ bA (Lib.itoa x))
 | 5, v, _ => v = .string (bA s ++ bA (Lib.itoa x) ++ ⟨#[32]⟩)
 | 6, v, _ => v = .pointer (some ⟨P, 1, none⟩)
 | 7, v, _ => v = .int .i64 y
 | 8, v, _ => v = .string (bA (Lib.itoa y))
 | 9, v, _ => v = .string (bA s ++ bA (Lib.itoa x) ++ ⟨#[32]⟩ ++ bA (Lib.itoa y))
 | 10, v, _ => v = .string (bA s ++ bA (Lib.itoa x) ++ ⟨#[32]⟩ ++ bA (Lib.itoa y))
 | _, _, _ => True
theorem VltE.mono {P : Nat} {x y : Int} {s : List UInt8} {B j : Nat} {v : Value} {W W2 : World} (_hB : Below W.heap.size W W2) (h : VltE P x y s B j v W) : VltE P x y s B j v W2 := by
 unfold VltE at *
 split <;> simp only at h <;> first | exact h | trivial
def SltE (_P : Nat) (_x _y : Int) (s : List UInt8) (lz : Array Bool) (az : Act) (_W : World) : Prop := AccI 11 10 3 (.string (bA s)) lz az
def JltE (P : Nat) (x y : Int) (s : List UInt8) (w0 : World) (a0 : Act) (lz : Array Bool) (az : Act) (W : World) : Prop := InvQ (w0.heap.size) [some 75, some 76, some 77, some 78, some 79, some 80, some 81, some 82, some 83, some 84, some 3] (VltE P x y s (w0.heap.size)) w0 a0 lz az W ∧ SltE P x y s lz az W
set_option maxRecDepth 100000 in
set_option maxHeartbeats 4000000 in
theorem ltE {Q : Exit → Act → World → Prop} {P : Nat} {x y : Int} {s : List UInt8}  {w0 : World} {a0 : Act} {idq : Nat} {t0 t1 t2 t3 t4 t5 t6 t7 t8 t9 t10 : TypeId} {q0 q1 q2 q3 q4 q5 q6 q7 q8 q9 q10 : String}
   (hx : shB x = true) (hy : shB y = true) (hs9 : (bA s).size ≤ 2000) (hr : a0.tmps.getD 3 undef = .string (bA s)) (h7 : a0.tmps[7]? = some (.pointer (some ⟨P, 0, none⟩))) (k0 : w0.cell? ⟨P, 0, none⟩ = some (.int .i64 x)) (l0 : (⟨P, 0, none⟩ : Addr).block < w0.heap.size) (k1 : w0.cell? ⟨P, 1, none⟩ = some (.int .i64 y)) (l1 : (⟨P, 1, none⟩ : Addr).block < w0.heap.size) (hz : a0.tmps.size = 86)
   (hQ : ∀ aq W, aq.tmps.size = a0.tmps.size → aq.defers = a0.defers → (∀ e, e ∉ ([75, 76, 77, 78, 79, 80, 81, 82, 83, 84, 3] : List Nat) → aq.tmps[e]? = a0.tmps[e]?) → VltE P x y s (w0.heap.size) 10 (aq.tmps.getD 3 undef) W → Below (w0.heap.size) w0 W → (True) → Q .normal aq W) :
   (Code.region idq #[{ dst := some 75, op := Op.move (Operand.tmp 3), type := t0, pos := q0, after := #[], guard := none },
   { dst := some 76, op := Op.fieldAddr 41 (Operand.tmp 7) 0, type := t1, pos := q1, after := #[], guard := none },
   { dst := some 77, op := Op.load 2 (Operand.tmp 76), type := t2, pos := q2, after := #[{ on := 1, ground := Ground.data }], guard := none },
   { dst := some 78, op := Op.call { callee := Callee.value (Operand.func 16), args := #[Operand.tmp 77], argTypes := #[2] }, type := t3, pos := q3, after := #[{ on := 2, ground := Ground.data }], guard := none },
   { dst := some 79, op := Op.binOp BinOp.add 9 (Operand.tmp 75) (Operand.tmp 78) 9, type := t4, pos := q4, after := #[{ on := 0, ground := Ground.data }, { on := 3, ground := Ground.data }], guard := none },
   { dst := some 80, op := Op.binOp BinOp.add 9 (Operand.tmp 79) (Operand.const (Value.string { data := #[32] })) 9, type := t5, pos := q5, after := #[{ on := 4, ground := Ground.data }], guard := none },
   { dst := some 81, op := Op.fieldAddr 41 (Operand.tmp 7) 1, type := t6, pos := q6, after := #[], guard := none },
   { dst := some 82, op := Op.load 2 (Operand.tmp 81), type := t7, pos := q7, after := #[{ on := 6, ground := Ground.data }], guard := none },
   { dst := some 83, op := Op.call { callee := Callee.value (Operand.func 16), args := #[Operand.tmp 82], argTypes := #[2] }, type := t8, pos := q8, after := #[{ on := 7, ground := Ground.data }, { on := 3, ground := Ground.chain }], guard := none },
   { dst := some 84, op := Op.binOp BinOp.add 9 (Operand.tmp 80) (Operand.tmp 83) 9, type := t9, pos := q9, after := #[{ on := 5, ground := Ground.data }, { on := 8, ground := Ground.data }], guard := none },
   { dst := some 3, op := Op.assign (Operand.tmp 84), type := t10, pos := q10, after := #[{ on := 9, ground := Ground.data }, { on := 8, ground := Ground.chain }, { on := 0, ground := Ground.phase }, { on := 1, ground := Ground.phase }, { on := 2, ground := Ground.phase }, { on := 3, ground := Ground.phase }, { on := 4, ground := Ground.phase }, { on := 5, ground := Ground.phase }, { on := 6, ground := Ground.phase }, { on := 7, ground := Ground.phase }, { on := 8, ground := Ground.phase }, { on := 9, ground := Ground.phase }], guard := none }] true).wp Tryd.prog Q a0 w0 := by
 have hS : distS [some 75, some 76, some 77, some 78, some 79, some 80, some 81, some 82, some 83, some 84, some 3] = true := rfl
 refine wp_region_inv (by kernel_rfl) (JltE P x y s w0 a0) ⟨⟨rfl, rfl, rfl, fun _ _ => rfl, (Below.refl _ w0).drew, fun j d hj => ?_, fun j hj => ?_⟩, AccI.start hr⟩ ?_ ?_
 · exfalso
   rw [Array.getD_eq_getD_getElem?, Array.getElem?_replicate] at hj
   split at hj <;> simp at hj
 · exfalso
   rw [Array.getD_eq_getD_getElem?, Array.getElem?_replicate] at hj
   split at hj <;> simp at hj
 · intro lq aq W iq oq ⟨hJ, hs⟩ hl ho hall
   have hJ2 := hJ
   obtain ⟨z1, z2, z3, z4, z5, z6, z7⟩ := hJ
   have g7 : aq.tmps.getD 7 undef = .pointer (some ⟨P, 0, none⟩) := by rw [Array.getD_eq_getD_getElem?, z4 7 (by decide), h7]; rfl
   have c0 : W.cell? ⟨P, 0, none⟩ = some (.int .i64 x) := (z5.cell l0).trans k0
   have c1 : W.cell? ⟨P, 1, none⟩ = some (.int .i64 y) := (z5.cell l1).trans k1
   match iq, ho with
   | 0, ho =>
     cases ho
     refine wpOp_of rfl rfl ?_
     have hq := fun (v : Value) => hs.quiet 0 75 v (by decide) hl (by decide) (by decide)
     have g3 : aq.tmps.getD 3 undef = .string (bA s) := hs.2 (hs.off (i := 0) (by decide) hl)
     have hK := fun (v : Value) (W2 : World) hW hT hv (hs : SltE P x y s (lq.setIfInBounds 0 true) (aq.put (some 75) v) W2) => show (JltE P x y s w0 a0) (lq.setIfInBounds 0 true) (aq.put (some 75) v) W2 from ⟨hJ2.put hS 0 75 rfl (by omega) (W' := W2) hW hT v hv, hs⟩
     clear ho hall hl hQ
     generalize (JltE P x y s w0 a0) (lq.setIfInBounds 0 true) = K at hK ⊢
     clear hJ2 hS z1 z2 z3 z4 z6 z7
     go_simp
     exact hK _ _ z5 (fun _ _ h => h) rfl (hq _)
   | 1, ho =>
     cases ho
     refine wpOp_of rfl rfl ?_
     have hq := fun (v : Value) => hs.quiet 1 76 v (by decide) hl (by decide) (by decide)
     have hK := fun (v : Value) (W2 : World) hW hT hv (hs : SltE P x y s (lq.setIfInBounds 1 true) (aq.put (some 76) v) W2) => show (JltE P x y s w0 a0) (lq.setIfInBounds 1 true) (aq.put (some 76) v) W2 from ⟨hJ2.put hS 1 76 rfl (by omega) (W' := W2) hW hT v hv, hs⟩
     clear ho hall hl hQ
     generalize (JltE P x y s w0 a0) (lq.setIfInBounds 1 true) = K at hK ⊢
     clear hJ2 hS z1 z2 z3 z4 z6 z7
     go_simp
     exact hK _ _ z5 (fun _ _ h => h) rfl (hq _)
   | 2, ho =>
     cases ho
     refine wpOp_of rfl rfl ?_
     have f1 : (aq.tmps.getD 76 undef) = .pointer (some ⟨P, 0, none⟩) := z6 1 76 (hall { on := 1, ground := Ground.data } (by simp) rfl) rfl
     have hq := fun (v : Value) => hs.quiet 2 77 v (by decide) hl (by decide) (by decide)
     have hK := fun (v : Value) (W2 : World) hW hT hv (hs : SltE P x y s (lq.setIfInBounds 2 true) (aq.put (some 77) v) W2) => show (JltE P x y s w0 a0) (lq.setIfInBounds 2 true) (aq.put (some 77) v) W2 from ⟨hJ2.put hS 2 77 rfl (by omega) (W' := W2) hW hT v hv, hs⟩
     clear ho hall hl hQ
     generalize (JltE P x y s w0 a0) (lq.setIfInBounds 2 true) = K at hK ⊢
     clear hJ2 hS z1 z2 z3 z4 z6 z7
     go_simp
     exact hK _ _ z5 (fun _ _ h => h) rfl (hq _)
   | 3, ho =>
     cases ho
     refine wpOp_of rfl rfl ?_
     have f2 : (aq.tmps.getD 77 undef) = .int .i64 x := z6 2 77 (hall { on := 2, ground := Ground.data } (by simp) rfl) rfl
     have hq := fun (v : Value) => hs.quiet 3 78 v (by decide) hl (by decide) (by decide)
     have hK := fun (v : Value) (W2 : World) hW hT hv (hs : SltE P x y s (lq.setIfInBounds 3 true) (aq.put (some 78) v) W2) => show (JltE P x y s w0 a0) (lq.setIfInBounds 3 true) (aq.put (some 78) v) W2 from ⟨hJ2.put hS 3 78 rfl (by omega) (W' := W2) hW hT v hv, hs⟩
     clear ho hall hl hQ
     generalize (JltE P x y s w0 a0) (lq.setIfInBounds 3 true) = K at hK ⊢
     clear hJ2 hS z1 z2 z3 z4 z6 z7
     go_simp
     refine (l6Num_any x hx W).mono ?_
     rintro e v1 ⟨rfl, hBv⟩
     exact hK _ _ (z5.trans (hBv.mono z5.size)) (fun j v h => h.mono hBv) rfl (hq _)
   | 4, ho =>
     cases ho
     refine wpOp_of rfl rfl ?_
     have f0 : (aq.tmps.getD 75 undef) = .string (bA s) := z6 0 75 (hall { on := 0, ground := Ground.data } (by simp) rfl) rfl
     have f3 : (aq.tmps.getD 78 undef) = .string (bA (Lib.itoa x)) := z6 3 78 (hall { on := 3, ground := Ground.data } (by simp) rfl) rfl
     have hq := fun (v : Value) => hs.quiet 4 79 v (by decide) hl (by decide) (by decide)
     have l1 := itoa_size hx; have l2 := itoa_size hy
     have hK := fun (v : Value) (W2 : World) hW hT hv (hs : SltE P x y s (lq.setIfInBounds 4 true) (aq.put (some 79) v) W2) => show (JltE P x y s w0 a0) (lq.setIfInBounds 4 true) (aq.put (some 79) v) W2 from ⟨hJ2.put hS 4 79 rfl (by omega) (W' := W2) hW hT v hv, hs⟩
     clear ho hall hl hQ
     generalize (JltE P x y s w0 a0) (lq.setIfInBounds 4 true) = K at hK ⊢
     clear hJ2 hS z1 z2 z3 z4 z6 z7
     go_simp
     rw [if_neg (by omega)]
     exact hK _ _ z5 (fun _ _ h => h) rfl (hq _)
   | 5, ho =>
     cases ho
     refine wpOp_of rfl rfl ?_
     have f4 : (aq.tmps.getD 79 undef) = .string (bA s ++ bA (Lib.itoa x)) := z6 4 79 (hall { on := 4, ground := Ground.data } (by simp) rfl) rfl
     have hq := fun (v : Value) => hs.quiet 5 80 v (by decide) hl (by decide) (by decide)
     have l1 := itoa_size hx; have l2 := itoa_size hy
     have hK := fun (v : Value) (W2 : World) hW hT hv (hs : SltE P x y s (lq.setIfInBounds 5 true) (aq.put (some 80) v) W2) => show (JltE P x y s w0 a0) (lq.setIfInBounds 5 true) (aq.put (some 80) v) W2 from ⟨hJ2.put hS 5 80 rfl (by omega) (W' := W2) hW hT v hv, hs⟩
     clear ho hall hl hQ
     generalize (JltE P x y s w0 a0) (lq.setIfInBounds 5 true) = K at hK ⊢
     clear hJ2 hS z1 z2 z3 z4 z6 z7
     go_simp
     rw [if_neg (by omega)]
     exact hK _ _ z5 (fun _ _ h => h) rfl (hq _)
   | 6, ho =>
     cases ho
     refine wpOp_of rfl rfl ?_
     have hq := fun (v : Value) => hs.quiet 6 81 v (by decide) hl (by decide) (by decide)
     have hK := fun (v : Value) (W2 : World) hW hT hv (hs : SltE P x y s (lq.setIfInBounds 6 true) (aq.put (some 81) v) W2) => show (JltE P x y s w0 a0) (lq.setIfInBounds 6 true) (aq.put (some 81) v) W2 from ⟨hJ2.put hS 6 81 rfl (by omega) (W' := W2) hW hT v hv, hs⟩
     clear ho hall hl hQ
     generalize (JltE P x y s w0 a0) (lq.setIfInBounds 6 true) = K at hK ⊢
     clear hJ2 hS z1 z2 z3 z4 z6 z7
     go_simp
     exact hK _ _ z5 (fun _ _ h => h) rfl (hq _)
   | 7, ho =>
     cases ho
     refine wpOp_of rfl rfl ?_
     have f6 : (aq.tmps.getD 81 undef) = .pointer (some ⟨P, 1, none⟩) := z6 6 81 (hall { on := 6, ground := Ground.data } (by simp) rfl) rfl
     have hq := fun (v : Value) => hs.quiet 7 82 v (by decide) hl (by decide) (by decide)
     have hK := fun (v : Value) (W2 : World) hW hT hv (hs : SltE P x y s (lq.setIfInBounds 7 true) (aq.put (some 82) v) W2) => show (JltE P x y s w0 a0) (lq.setIfInBounds 7 true) (aq.put (some 82) v) W2 from ⟨hJ2.put hS 7 82 rfl (by omega) (W' := W2) hW hT v hv, hs⟩
     clear ho hall hl hQ
     generalize (JltE P x y s w0 a0) (lq.setIfInBounds 7 true) = K at hK ⊢
     clear hJ2 hS z1 z2 z3 z4 z6 z7
     go_simp
     exact hK _ _ z5 (fun _ _ h => h) rfl (hq _)
   | 8, ho =>
     cases ho
     refine wpOp_of rfl rfl ?_
     have f7 : (aq.tmps.getD 82 undef) = .int .i64 y := z6 7 82 (hall { on := 7, ground := Ground.data } (by simp) rfl) rfl
     have hq := fun (v : Value) => hs.quiet 8 83 v (by decide) hl (by decide) (by decide)
     have hK := fun (v : Value) (W2 : World) hW hT hv (hs : SltE P x y s (lq.setIfInBounds 8 true) (aq.put (some 83) v) W2) => show (JltE P x y s w0 a0) (lq.setIfInBounds 8 true) (aq.put (some 83) v) W2 from ⟨hJ2.put hS 8 83 rfl (by omega) (W' := W2) hW hT v hv, hs⟩
     clear ho hall hl hQ
     generalize (JltE P x y s w0 a0) (lq.setIfInBounds 8 true) = K at hK ⊢
     clear hJ2 hS z1 z2 z3 z4 z6 z7
     go_simp
     refine (l6Num_any y hy W).mono ?_
     rintro e v1 ⟨rfl, hBv⟩
     exact hK _ _ (z5.trans (hBv.mono z5.size)) (fun j v h => h.mono hBv) rfl (hq _)
   | 9, ho =>
     cases ho
     refine wpOp_of rfl rfl ?_
     have f5 : (aq.tmps.getD 80 undef) = .string (bA s ++ bA (Lib.itoa x) ++ ⟨#[32]⟩) := z6 5 80 (hall { on := 5, ground := Ground.data } (by simp) rfl) rfl
     have f8 : (aq.tmps.getD 83 undef) = .string (bA (Lib.itoa y)) := z6 8 83 (hall { on := 8, ground := Ground.data } (by simp) rfl) rfl
     have hq := fun (v : Value) => hs.quiet 9 84 v (by decide) hl (by decide) (by decide)
     have l1 := itoa_size hx; have l2 := itoa_size hy
     have hK := fun (v : Value) (W2 : World) hW hT hv (hs : SltE P x y s (lq.setIfInBounds 9 true) (aq.put (some 84) v) W2) => show (JltE P x y s w0 a0) (lq.setIfInBounds 9 true) (aq.put (some 84) v) W2 from ⟨hJ2.put hS 9 84 rfl (by omega) (W' := W2) hW hT v hv, hs⟩
     clear ho hall hl hQ
     generalize (JltE P x y s w0 a0) (lq.setIfInBounds 9 true) = K at hK ⊢
     clear hJ2 hS z1 z2 z3 z4 z6 z7
     go_simp
     rw [if_neg (by omega)]
     exact hK _ _ z5 (fun _ _ h => h) rfl (hq _)
   | 10, ho =>
     cases ho
     refine wpOp_of rfl rfl ?_
     have f9 : (aq.tmps.getD 84 undef) = .string (bA s ++ bA (Lib.itoa x) ++ ⟨#[32]⟩ ++ bA (Lib.itoa y)) := z6 9 84 (hall { on := 9, ground := Ground.data } (by simp) rfl) rfl
     have hq := fun (v : Value) => AccI.assigned (n := 11) (dr := 3) (o := .string (bA s)) (az := aq) hl (fun j hj hn => match j, hj, hn with | 0, _, _ => hall { on := 0, ground := Ground.phase } (by simp) rfl | 1, _, _ => hall { on := 1, ground := Ground.phase } (by simp) rfl | 2, _, _ => hall { on := 2, ground := Ground.phase } (by simp) rfl | 3, _, _ => hall { on := 3, ground := Ground.phase } (by simp) rfl | 4, _, _ => hall { on := 4, ground := Ground.phase } (by simp) rfl | 5, _, _ => hall { on := 5, ground := Ground.phase } (by simp) rfl | 6, _, _ => hall { on := 6, ground := Ground.phase } (by simp) rfl | 7, _, _ => hall { on := 7, ground := Ground.phase } (by simp) rfl | 8, _, _ => hall { on := 8, ground := Ground.chain } (by simp) rfl | 9, _, _ => hall { on := 9, ground := Ground.data } (by simp) rfl | 10, _, hn => absurd rfl hn | j + 11, hj, _ => absurd hj (by omega)) v
     have hK := fun (v : Value) (W2 : World) hW hT hv (hs : SltE P x y s (lq.setIfInBounds 10 true) (aq.put (some 3) v) W2) => show (JltE P x y s w0 a0) (lq.setIfInBounds 10 true) (aq.put (some 3) v) W2 from ⟨hJ2.put hS 10 3 rfl (by omega) (W' := W2) hW hT v hv, hs⟩
     clear ho hall hl hQ
     generalize (JltE P x y s w0 a0) (lq.setIfInBounds 10 true) = K at hK ⊢
     clear hJ2 hS z1 z2 z3 z4 z6 z7
     go_simp
     exact hK _ _ z5 (fun _ _ h => h) rfl (hq _)
   | iq + 11, ho => simp at ho
 · intro lq aq W ⟨hJ, hs⟩ hr
   obtain ⟨z1, z2, z3, z4, z5, z6, z7⟩ := hJ
   have hl := listed_of hr [0, 1, 2, 3, 4, 5, 6, 7, 8, 9, 10] [] (by simp) (by kernel_rfl) (by rw [z1]; decide)
   exact hQ aq W z2 z3 (fun e he => z4 e (by simpa using he)) (z6 10 3 (hl 10 (by simp)) rfl) z5 (trivial)
theorem hvB_none {n : Nat} {L : Nat → Nat} {q : Nat → Ps} (h0 : ¬ n = 0) (h : ¬ hvB n L q = true) : ltU n L q = [] := by
 unfold ltU
 rw [if_neg h0, if_neg h]
theorem smR_part {L : Nat → Nat} {c n : Nat} (h : c < n) : smR L c + L c ≤ smR L n := smR_mono (L := L) (show c + 1 ≤ n from h)
theorem spU_bA (s : List UInt8) (p : Ps) (k : Nat) : bA s ++ bA (Lib.itoa (p k).1) ++ ⟨#[32]⟩ ++ bA (Lib.itoa (p k).2) = bA (s ++ spU p k) := by
 show bA s ++ bA _ ++ bA [32] ++ bA _ = _
 rw [bA_append, bA_append, bA_append, spU]
 simp
theorem bA_isE {l : List UInt8} (h : l ≠ []) : (bA l).toList.isEmpty = false := by
 rw [ByteArray.toList_eq, bA_list]
 cases l with
 | nil => exact absurd rfl h
 | cons _ _ => rfl
set_option maxRecDepth 100000 in
set_option maxHeartbeats 4000000 in
theorem specLayerText_any (ao : Option Addr) (n cap : Nat) (S : Nat → Option Addr × Nat) (L : Nat → Nat) (q : Nat → Ps) (hn : n ≤ 1048576) (hL : ∀ i, i < n → L i ≤ 1048576) (w : World) (hS : RgIn w ao n S L q) : Calls Tryd.prog 6 #[.slice ao n cap] w (VP (.string (bA (ltU n L q))) w) := by
 have HS : Hid (RgIn w ao n S L q) := hS
 have HL : Hid (∀ i, i < n → L i ≤ 1048576) := hL
 have hnI : (n : Int) ≤ 1048576 := by omega
 clear hS hL
 by_cases h0 : n = 0
 · subst h0
   go_enter Tryd.func6, Tryd.ntmps6
   go_wp2
   go_ret
   exact ⟨rfl, Below.refl _ _⟩
 · have h0I : ¬ ((n : Int) = 0) := by omega
   have HN : Hid (¬ hvB n L q = true → ltU n L q = []) := hvB_none h0
   by_cases h6 : n ≤ 6
   · have h6I : ¬ ((n : Int) > 6) := by omega
     go_enter Tryd.func6, Tryd.ntmps6
     go_wp2_with fail
     go_loopw [3, 4, 5] (fun s m i wr => ∃ c : Nat, c ≤ n ∧ i = .int .i64 c ∧ s = .string (bA (lyU L q c)) ∧ m = .int .i64 (smR L c : Nat) ∧ smR L c ≤ 20 ∧ Hid (∀ i, i < c → htB (L i) (q i) = true) ∧ Below w.heap.size w wr) (fun _ _ i _ => n - (intOf i).toNat)
     case atStart => exact ⟨0, by omega, rfl, rfl, rfl, by simp [smR], fun i hi => by omega, Below.refl _ _⟩
     case round =>
       obtain ⟨c, hc, rfl, rfl, rfl, hsm, HA, HBr⟩ := hrel
       by_cases hcn : c < n
       · have hcI : (c : Int) < n := by omega
         obtain ⟨A, off, rfl, hA, q0, hrow⟩ := HS.out.step HBr c hcn
         obtain ⟨so, hso⟩ : ∃ so, (S c).1 = so := ⟨_, rfl⟩
         obtain ⟨sc, hsc⟩ : ∃ sc, (S c).2 = sc := ⟨_, rfl⟩
         obtain ⟨l, hl⟩ : ∃ l, L c = l := ⟨_, rfl⟩
         have HR : Hid (∀ W, Below w.heap.size w W → W.cell? ⟨A, off + c, none⟩ = some (.slice so l sc) ∧ SpIn W so l (q c)) := fun W h => by
           obtain ⟨_, _, e, _, h8, h9⟩ := HS.out.step h c hcn
           cases e
           rw [hso, hl] at h9
           rw [hso, hsc, hl] at h8
           exact ⟨h8, h9⟩
         rw [hso, hsc, hl] at q0
         have hl9 := HL.out c hcn
         rw [hl] at hl9
         have HLl : Hid (L c = l) := hl
         have HP : Hid (smR L c + l ≤ smR L n) := by have := smR_part (L := L) hcn; rw [hl] at this; exact this
         have hw : IntKind.i64.wrap (((smR L c : Nat) : Int) + (l : Int)) = ((smR L c + l : Nat) : Int) := by rw [IntKind.wrap_i64]; omega
         have HSm : Hid (smR L (c + 1) = smR L c + l) := by show _ = _; rw [smR, hl]
         clear hso hsc hl hrow
         have hs9 : (bA (lyU L q c)).size ≤ 1000 := by
           have := lyU_le c HA.out
           rw [bA_size]
           omega
         obtain ⟨sm, hsm2⟩ : ∃ sm, smR L c = sm := ⟨_, rfl⟩
         rw [hsm2] at hw hsm HP HSm
         simp only [hsm2]
         clear hsm2
         by_cases hl0 : l = 0
         · have hl0I : (l : Int) = 0 := by omega
           have HO : Hid (ltU n L q = []) := HN.out fun h => by
             have := (htB_iff.1 ((hvB_iff.1 h).2 c hcn)).1
             rw [HLl.out] at this
             omega
           clear HL HA HN HP hsm HSm HR
           go_wp2
           go_ret
           exact ⟨by rw [HO.out]; rfl, HBr⟩
         · have hl0I : ¬ ((l : Int) = 0) := by omega
           by_cases h20 : sm + l ≤ 20
           · have h20I : ¬ (((sm + l : Nat) : Int) > 20) := by omega
             obtain ⟨t, ht⟩ : ∃ t, sm + l = t := ⟨_, rfl⟩
             rw [ht] at hw h20 h20I HP HSm
             clear hsm
             rcases Nat.eq_zero_or_pos c with hc0 | hc0
             case' inl =>
               have hc0I : ¬ ((c : Int) > 0) := by omega
               have HE : Hid (bA (lyU L q c) = bA (stU L q c 0)) := by
                 show _ = _
                 subst hc0
                 rfl
             case' inr =>
               have hc0I : (c : Int) > 0 := by omega
               have HE : Hid (bA (lyU L q c) ++ ⟨#[32, 47]⟩ = bA (stU L q c 0)) := by
                 show _ = _
                 rw [show stU L q c 0 = lyU L q c ++ [32, 47] by unfold stU; rw [if_pos rfl, if_neg (by omega)]]
                 exact bA_append _ [32, 47]
             all_goals
               generalize bA (lyU L q c) = s0 at *
               have hs9' : ¬ (9223372036854775807 < s0.size + 2) := by omega
               clear hc0
               go_wp2_with fail
               go_loopw [3, 6] (fun s i w2 => ∃ k : Nat, k ≤ l ∧ i = .int .i64 k ∧ s = .string (bA (stU L q c k)) ∧ Hid (∀ j, j < k → shB (q c j).1 = true ∧ shB (q c j).2 = true) ∧ Below w.heap.size w w2) (fun _ i _ => l - (intOf i).toNat)
               case atStart => exact ⟨0, by omega, rfl, congrArg Value.string HE.out, fun j hj => by omega, HBr⟩
               case round =>
                 obtain ⟨k, hk, rfl, rfl, HK, HB2⟩ := hrel
                 clear HE q0 HBr
                 obtain ⟨q0, hrow⟩ := HR.out _ HB2
                 by_cases hkl : k < l
                 · have hkI : (k : Int) < l := by omega
                   obtain ⟨A2, o2, rfl, hA3, s1, s2⟩ := hrow k hkl
                   have hs9 : (bA (stU L q c k)).size ≤ 1000 := by
                     have h1 := stU_le HA.out HK.out
                     have h2 := HSm.out
                     rw [smR, HLl.out] at h2
                     rw [bA_size]
                     omega
                   obtain ⟨b1, hb1⟩ : ∃ b1, shB (q c k).1 = b1 := ⟨_, rfl⟩
                   obtain ⟨b2, hb2⟩ : ∃ b2, shB (q c k).2 = b2 := ⟨_, rfl⟩
                   have C1 := fun w => l6Short_any (q c k).1 b1 hb1 w
                   have C2 := fun w => l6Short_any (q c k).2 b2 hb2 w
                   have H12 : Hid (shB (q c k).1 = b1 ∧ shB (q c k).2 = b2) := ⟨hb1, hb2⟩
                   have HSt : Hid (stU L q c (k + 1) = (if c = 0 ∧ k = 0 then [] else stU L q c k ++ [32]) ++ spU (q c) k) := stU_step
                   have HNil : Hid (stU L q c k = [] ↔ c = 0 ∧ k = 0) := stU_nil
                   clear hb1 hb2 hrow
                   have X := Blk.new wr [.int .i64 (q c k).1, .int .i64 (q c k).2] 41 rfl
                   have HBX := HB2.alloc HB2.size (.cells #[.int .i64 (q c k).1, .int .i64 (q c k).2] 41)
                   go_upto_region 19 with fail
                   clear s1 s2 q0 HB2 hA3
                   generalize wr.heap.size = P at *
                   revert X
                   rw [show ([.int .i64 (q c k).1, .int .i64 (q c k).2] : List Value).toArray = #[.int .i64 (q c k).1, .int .i64 (q c k).2] from rfl]
                   intro X
                   generalize (wr.alloc (.cells #[.int .i64 (q c k).1, .int .i64 (q c k).2] 41)) = W2 at *
                   have x0 := X.c 0 rfl; have x1 := X.c 1 rfl
                   generalize stU L q c k = U at *
                   go_wp2_with fail
                   refine (C1 _).mono ?_
                   rintro e w3 ⟨rfl, hB⟩
                   have X3 := X.step hB
                   replace HBX := HBX.trans (hB.mono HBX.size)
                   clear hB C1 x0 x1 X
                   have x0 := X3.c 0 rfl; have x1 := X3.c 1 rfl
                   cases b1 with
                   | false =>
                     have HO : Hid (ltU n L q = []) := HN.out fun h => by
                       have := ((htB_iff.1 ((hvB_iff.1 h).2 c hcn)).2 k (by rw [HLl.out]; exact hkl)).1
                       rw [H12.out.1] at this
                       cases this
                     clear C2 X3 x0 x1 HL HA HN HP HSm HR HK H12 HSt HNil
                     go_wp2
                     go_ret
                     exact ⟨by rw [HO.out]; rfl, HBX⟩
                   | true =>
                     go_wp2_with fail
                     refine (C2 _).mono ?_
                     rintro e w4 ⟨rfl, hB⟩
                     have X4 := X3.step hB
                     replace HBX := HBX.trans (hB.mono HBX.size)
                     clear hB C2 x0 x1 X3
                     cases b2 with
                     | false =>
                       have HO : Hid (ltU n L q = []) := HN.out fun h => by
                         have := ((htB_iff.1 ((hvB_iff.1 h).2 c hcn)).2 k (by rw [HLl.out]; exact hkl)).2
                         rw [H12.out.2] at this
                         cases this
                       clear X4 HL HA HN HP HSm HR HK H12 HSt HNil
                       go_wp2
                       go_ret
                       exact ⟨by rw [HO.out]; rfl, HBX⟩
                     | true =>
                       have HK2 : Hid (∀ j, j < k + 1 → shB (q c j).1 = true ∧ shB (q c j).2 = true) := fun j hj => by
                         rcases Nat.lt_or_ge j k with h | h
                         · exact HK.out j h
                         · obtain rfl : j = k := by omega
                           exact H12.out
                       obtain ⟨h1, h2⟩ := H12.out
                       clear HK H12
                       by_cases h00 : c = 0 ∧ k = 0
                       case' pos =>
                         have hE := HNil.out.2 h00
                         obtain ⟨s, hs⟩ : ∃ s : List UInt8, s = [] := ⟨_, rfl⟩
                         have HS2 : Hid (stU L q c (k + 1) = s ++ spU (q c) k) := by
                           show _ = _
                           rw [HSt.out, if_pos h00, hs]
                         have hsS : (bA s).size ≤ 2000 := by
                           rw [hs, bA_size]
                           simp
                         subst hE
                         have HE2 : Hid (⟨#[]⟩ = bA s) := by
                           subst hs
                           rfl
                         rw [show bA [] = ⟨#[]⟩ from rfl]
                       case' neg =>
                         have hE := bA_isE fun h => h00 (HNil.out.1 h)
                         obtain ⟨s, hs⟩ : ∃ s : List UInt8, s = U ++ [32] := ⟨_, rfl⟩
                         have HS2 : Hid (stU L q c (k + 1) = s ++ spU (q c) k) := by
                           show _ = _
                           rw [HSt.out, if_neg h00, hs]
                         have hsS : (bA s).size ≤ 2000 := by
                           rw [bA_size] at hs9
                           rw [hs, bA_size, List.length_append]
                           simp only [List.length_cons, List.length_nil]
                           omega
                         have HE2 : Hid (bA U ++ ⟨#[32]⟩ = bA s) := by
                           subst hs
                           exact bA_append U [32]
                         have hs92 : ¬ (9223372036854775807 < (bA U).size + 1) := by omega
                         generalize bA U = s1 at *
                       all_goals
                         clear HNil HSt h00 hs
                         go_upto_region 23 with fail
                         refine ltE (P := P) (x := (q c k).1) (y := (q c k).2) (s := s) h1 h2 hsS (congrArg Value.string HE2.out) rfl (X4.c 0 rfl) X4.lt (X4.c 1 rfl) X4.lt rfl ?_
                         rintro ⟨tm, df⟩ Wz hz hdf hoff hx hBz -
                         simp only at hz hdf hoff hx
                         change tm.getD 3 undef = .string (bA s ++ bA (Lib.itoa (q c k).1) ++ ⟨#[32]⟩ ++ bA (Lib.itoa (q c k).2)) at hx
                         rw [spU_bA, ← HS2.out] at hx
                         subst hdf
                         have htm := tmps_fold [75, 76, 77, 78, 79, 80, 81, 82, 83, 84, 3] tm _ hz hoff
                         simp only [List.foldl, List.setIfInBounds_toArray, List.set_cons_zero, List.set_cons_succ, hx] at htm
                         clear hz hoff
                         generalize tm.getD 75 undef = u0, tm.getD 76 undef = u1, tm.getD 77 undef = u2, tm.getD 78 undef = u3, tm.getD 79 undef = u4, tm.getD 80 undef = u5, tm.getD 81 undef = u6, tm.getD 82 undef = u7, tm.getD 83 undef = u8, tm.getD 84 undef = u9 at htm
                         clear hx
                         subst htm
                         have HBN := HBX.trans (hBz.mono HBX.size)
                         clear hBz HBX X4 hsS HS2 HE2
                         go_wp2
                         go_roundw
                         case rel => exact ⟨k + 1, by omega, by go_num, rfl, HK2, HBN⟩
                         case measure => simp [intOf]; omega
                 · obtain rfl : k = l := by omega
                   have HN2 : Hid (∀ i, i < c + 1 → htB (L i) (q i) = true) := fun i hi => by
                     rcases Nat.lt_or_ge i c with h | h
                     · exact HA.out i h
                     · obtain rfl : i = c := by omega
                       rw [HLl.out]
                       exact htB_iff.2 ⟨by omega, HK.out⟩
                   have HE2 : Hid (bA (stU L q c k) = bA (lyU L q (c + 1))) := by
                     show _ = _
                     rw [← stU_end (by rw [HLl.out]; omega), HLl.out]
                   clear HK HA hrow HP
                   go_wp2
                   go_roundw
                   case rel => exact ⟨c + 1, by omega, by go_num, congrArg Value.string HE2.out, by rw [HSm.out], by rw [HSm.out]; exact h20, HN2, HB2⟩
                   case measure => simp [intOf]; omega
           · have h20I : ((sm + l : Nat) : Int) > 20 := by omega
             have HO : Hid (ltU n L q = []) := HN.out fun h => by
               have h1 := (hvB_iff.1 h).1.2
               have h2 := HP.out
               omega
             clear HL HA HN HP hsm HSm HR
             go_wp2
             go_ret
             exact ⟨by rw [HO.out]; rfl, HBr⟩
       · obtain rfl : c = n := by omega
         have HO : Hid (ltU c L q = lyU L q c) := by
           show _ = _
           unfold ltU
           rw [if_neg h0, if_pos (hvB_iff.2 ⟨⟨h6, hsm⟩, HA.out⟩)]
         clear HA HN HL HS hsm
         go_wp2
         go_ret
         exact ⟨by rw [HO.out]; rfl, HBr⟩
   · have h6I : (n : Int) > 6 := by omega
     have HO : Hid (ltU n L q = []) := HN.out fun h => by have := (hvB_iff.1 h).1.1; omega
     clear HN HL HS
     go_enter Tryd.func6, Tryd.ntmps6
     go_wp2
     go_ret
     exact ⟨by rw [HO.out]; rfl, Below.refl _ _⟩
set_option maxRecDepth 100000 in
set_option maxHeartbeats 4000000 in
theorem lawLayerText_any (ao : Option Addr) (n cap : Nat) (S : Nat → Option Addr × Nat) (L : Nat → Nat) (q : Nat → Ps) (hn : n ≤ 9223372036854775807) (hL : ∀ i, i < n → L i ≤ 9223372036854775807) (w : World) (hT : TabP w.heap.size w) (hS : RgIn w ao n S L q) : Calls Tryd.prog 3 #[.slice ao n cap] w (BoolP true w) := by
 have SZ := szRingS_any 1048576 (by omega) (by omega) ao n cap S L q hn hL w hS
 have HT : Hid (TabP w.heap.size w) := hT
 clear hT
 go_enter Tryd.func3, Tryd.ntmps3
 go_wp2_with fail
 refine SZ.mono ?_
 rintro e w1 ⟨z, rfl, z0, z1, hz, hB⟩
 have HB := hB
 have HS := hS.step hB
 clear hB SZ hS hL hn
 by_cases hz0 : 0 ≤ z
 · obtain ⟨hn, hL⟩ := hz hz0
   have T1 := fun w => toRingS_any ao n cap S L q hn hL w
   have SP := fun ao S w h => specLayerText_any ao n n S L q hn hL w h
   have IM := fun ao S w h h' => layerText_any ao n n S L q hn hL w h h'
   have EQ := fun ao bo S S' w h h' => eqRingS_any ao bo n n n S S' L q hn hL w h h'
   generalize bA (ltU n L q) = o at *
   clear hz hL
   go_wp2_with fail
   refine (T1 _ HS).mono ?_
   rintro e w2 ⟨g1, S1, rfl, R1, -, -, hB⟩
   replace HB := HB.trans (hB.mono HB.size)
   replace HS := HS.step hB
   clear hB
   go_wp2_with fail
   refine (SP _ _ _ R1).mono ?_
   rintro e w3 ⟨rfl, hB⟩
   replace HB := HB.trans (hB.mono HB.size)
   replace HS := HS.step hB
   clear hB R1 SP
   go_wp2_with fail
   refine (T1 _ HS).mono ?_
   rintro e w4 ⟨g2, S2, rfl, R2, -, -, hB⟩
   replace HB := HB.trans (hB.mono HB.size)
   replace HS := HS.step hB
   clear hB
   have HT4 := HT.out.on HB HB.size
   go_wp2_with fail
   refine (IM _ _ _ HT4 R2).mono ?_
   rintro e w5 ⟨rfl, hB⟩
   replace HB := HB.trans (hB.mono HB.size)
   replace HS := HS.step hB
   replace R2 := R2.step hB
   clear hB IM HT4
   go_wp2_with fail
   refine (T1 _ HS).mono ?_
   rintro e w6 ⟨g3, S3, rfl, R3, -, -, hB⟩
   replace HB := HB.trans (hB.mono HB.size)
   replace R2 := R2.step hB
   clear hB HS T1
   go_wp2_with fail
   refine (EQ _ _ _ _ _ R2 R3).mono ?_
   rintro e w7 ⟨rfl, hB⟩
   replace HB := HB.trans (hB.mono HB.size)
   clear hB R2 R3 EQ
   go_wp2
   go_ret
   exact ⟨rfl, HB⟩
 · clear hz
   have hz' : z < 0 := by omega
   go_wp2
   go_ret
   exact ⟨rfl, HB⟩
open Go.ChangeShapes Go.WideShapes Go.ChangeAt Go.RowKit Go.Joins
abbrev Wf (x : Int) : Prop := (Lit.int .i64 x).wf = true
abbrev SpD {H : Type} (x y : Int) : DataW H := .agg [.lit (.int .i64 x), .lit (.int .i64 y)]
theorem trod_spot {H : Type} {enc : TypeId × Value → H} {w : World} {base : Nat} {spare : TypeId → Bool} {held : Bool} {n : Nat} {c0 c1 : Value} {y : DataW H × List MemPlace} (h : DataW.trod enc Tryd.prog w base spare held n 88 [c0, c1] = some y) :
   ∃ a b : Int, c0 = .int .i64 a ∧ c1 = .int .i64 b ∧ y = (SpD a b, []) ∧ Wf a ∧ Wf b := by
 obtain ⟨y0, y1, m, hx, _, h0, h1⟩ := trod_struct2 Tryd.underlying88 h
 obtain ⟨a, e0, rfl, wa⟩ := DataW.trod_int Tryd.underlying2 h0
 obtain ⟨b, e1, rfl, wb⟩ := DataW.trod_int Tryd.underlying2 h1
 have k : Tryd.prog.cellsOf 2 = 1 := by kernel_rfl
 simp [k] at e0 e1
 exact ⟨a, b, e0, e1, hx, wa, wb⟩
open Go.ChangeShapes Go.WideShapes Go.ChangeAt Go.RowKit Go.Joins
theorem Tryd.laidOut : laidOutB Tryd.prog = true := by kernel_rfl
theorem Tryd.cellsSpotL : Tryd.prog.cellsOf 88 = 2 := by kernel_rfl
theorem Tryd.cellsRing : Tryd.prog.cellsOf 36 = 1 := by kernel_rfl
theorem Tryd.cellsSpotS : Tryd.prog.cellsOf 34 = 1 := by kernel_rfl
theorem spots_of {H : Type} {enc : TypeId × Value → H} {W : World} {a : Addr} {len m n : Nat} {D : Nat → DataW H} {Pl : Nat → List MemPlace} (hl : len ≤ m)
   (hx : ∀ i, i < m → ∃ cs', W.cells? 0 (a.add (i * Tryd.prog.cellsOf 88)) (Tryd.prog.cellsOf 88) = some cs' ∧ DataW.trod enc Tryd.prog W 0 (fun _ => true) true n 88 cs' = some (D i, Pl i))
   (hlt : ∀ x ∈ MemPlace.row a (m * Tryd.prog.cellsOf 88), x.block < W.heap.size) : ∃ p : Ps, SpIn W (some a) len p := by
 rw [Tryd.cellsSpotL] at hx hlt
 have each : ∀ i, i < m → ∃ q : Int × Int, W.cell? (a.add (i * 2)) = some (.int .i64 q.1) ∧ W.cell? (a.add (i * 2 + 1)) = some (.int .i64 q.2) := by
   intro i hi
   obtain ⟨cs', h1, h2⟩ := hx i hi
   obtain ⟨_, hlen, hcell⟩ := World.cells?_some h1
   match cs', hlen with
   | [v0, v1], _ =>
     have e0 := hcell 0 (by omega); have e1 := hcell 1 (by omega)
     rw [Go.Deep.add_add] at e0 e1
     obtain ⟨x, y, rfl, rfl, -, -, -⟩ := trod_spot h2
     exact ⟨(x, y), by simpa using e0, by simpa using e1⟩
 obtain ⟨q, hq⟩ := Go.Deep.choose_lt each
 obtain ⟨ab, ao, spot⟩ := a
 refine ⟨q, fun i hi => ?_⟩
 have hspot : spot = none := by simpa [Addr.add] using World.cell?_spot (hq 0 (by omega)).1
 subst hspot
 obtain ⟨c0, c1⟩ := hq i (by omega)
 rw [Addr.add_lit] at c0 c1
 exact ⟨ab, ao, rfl, hlt (.cell ab (ao + i * 2)) (by simp only [MemPlace.row, List.mem_map, List.mem_range]; exact ⟨i * 2, by omega, rfl⟩), c0, by simpa [Nat.add_assoc] using c1⟩
theorem rings_of {H : Type} {enc : TypeId × Value → H} {W : World} {a : Addr} {len m n : Nat} {D : Nat → DataW H} {Pl : Nat → List MemPlace} (hl : len ≤ m)
   (hx : ∀ i, i < m → ∃ cs', W.cells? 0 (a.add (i * Tryd.prog.cellsOf 36)) (Tryd.prog.cellsOf 36) = some cs' ∧ DataW.trod enc Tryd.prog W 0 (fun _ => true) true n 36 cs' = some (D i, Pl i))
   (hlt : ∀ x ∈ MemPlace.row a (m * Tryd.prog.cellsOf 36), x.block < W.heap.size) (hlt2 : ∀ i, i < m → ∀ x ∈ Pl i, x.block < W.heap.size) : ∃ (S : Nat → Option Addr × Nat) (L : Nat → Nat) (q : Nat → Ps), RgIn W (some a) len S L q ∧ ∀ i, i < len → L i ≤ 9223372036854775807 := by
 rw [Tryd.cellsRing] at hx hlt
 have each : ∀ i, i < m → ∃ r : (Option Addr × Nat) × Nat × Ps, W.cell? (a.add i) = some (.slice r.1.1 r.2.1 r.1.2) ∧ SpIn W r.1.1 r.2.1 r.2.2 ∧ r.2.1 ≤ 9223372036854775807 := by
   intro i hi
   obtain ⟨cs', h1, h2⟩ := hx i hi
   obtain ⟨_, hlen, hcell⟩ := World.cells?_some h1
   match cs', hlen with
   | [v0], _ =>
     have e0 := hcell 0 (by omega)
     rw [Go.Deep.add_add] at e0
     simp at e0
     obtain ⟨y0, k, hy, _, g0⟩ := trod_struct1 Tryd.underlying36 h2
     simp [Tryd.cellsSpotS] at g0
     have hpl : Pl i = y0.2 := by have := congrArg Prod.snd hy; simpa using this
     rcases Go.Deep.open_slice Tryd.underlying34 g0 with ⟨hcs, -⟩ | ⟨a', len', cap', m', n', D', Pl', hcs, _, hl', hm', hz', hx', hel'⟩
     · simp at hcs
       subst hcs
       exact ⟨((none, 0), 0, fun _ => (0, 0)), e0, fun i hi => absurd hi (Nat.not_lt_zero _), Nat.zero_le _⟩
     · simp at hcs
       subst hcs
       simp only [if_true] at hz'
       have hb : ∀ x ∈ MemPlace.row a' (m' * Tryd.prog.cellsOf 88), x.block < W.heap.size := fun x hxx => hlt2 i hi x (by
         rw [hpl, hx']
         exact List.mem_append_left _ hxx)
       obtain ⟨p, hp⟩ := spots_of (len := len') (by omega) hel' hb
       exact ⟨((some a', cap'), len', p), e0, hp, by show len' ≤ _; have := hm'; simp [maxLen] at this; omega⟩
 obtain ⟨r, hr⟩ := Go.Deep.choose_lt each
 obtain ⟨ab, ao, spot⟩ := a
 refine ⟨fun i => (r i).1, fun i => (r i).2.1, fun i => (r i).2.2, fun i hi => ?_, fun i hi => (hr i (by omega)).2.2⟩
 have hspot : spot = none := by simpa [Addr.add] using World.cell?_spot (hr 0 (by omega)).1
 subst hspot
 have c0 := (hr i (by omega)).1
 rw [Addr.add_lit] at c0
 exact ⟨ab, ao, rfl, hlt (.cell ab (ao + i)) (by simp only [MemPlace.row, List.mem_map, List.mem_range]; exact ⟨i, by omega, rfl⟩), c0, (hr i (by omega)).2.1⟩
set_option maxRecDepth 100000 in
theorem open_rings {H : Type} {enc : TypeId × Value → H} {W : World} {base : Nat} {v : Value} {d : DataW H} {pl : List MemPlace} (ok : Value.okWide Tryd.prog W .any base 22 v) (h : DataW.Trod enc Tryd.prog W 0 (fun _ => true) true 22 v d pl) (hlt : ∀ x ∈ pl, x.block < W.heap.size) :
   ∃ ao n cap S L q, v = .slice ao n cap ∧ n ≤ 9223372036854775807 ∧ (∀ i, i < n → L i ≤ 9223372036854775807) ∧ RgIn W ao n S L q := by
 obtain ⟨a0, len, cap, rfl⟩ := okWide_slice Tryd.underlying22 ok
 obtain ⟨fuel, hf⟩ := h
 rcases Go.Deep.open_slice Tryd.underlying22 hf with ⟨hcs, hx⟩ | ⟨a, len', cap', m, n, D, Pl, hcs, _, hl, hm, hz, hx, hel⟩
 · simp [Value.cells] at hcs
   obtain ⟨rfl, rfl, rfl⟩ := hcs
   exact ⟨none, 0, 0, fun _ => (none, 0), fun _ => 0, fun _ _ => (0, 0), rfl, by omega, fun i hi => by omega, fun i hi => by omega⟩
 · simp [Value.cells] at hcs
   obtain ⟨rfl, rfl, rfl⟩ := hcs
   simp only [Prod.mk.injEq] at hx
   obtain ⟨rfl, rfl⟩ := hx
   simp only [if_true] at hz
   obtain ⟨S, L, q, hS, hL⟩ := rings_of (len := len) (by omega) hel (fun y hy => hlt y (List.mem_append_left _ hy)) (fun i hi y hy => hlt y (List.mem_append_right _ (List.mem_flatMap.2 ⟨i, List.mem_range.2 hi, hy⟩)))
   exact ⟨some a, len, cap, S, L, q, rfl, by have := hm; simp [maxLen] at this; omega, hL, hS⟩
end Go.Proofs.YtjcpdihdlklapaaDoor
