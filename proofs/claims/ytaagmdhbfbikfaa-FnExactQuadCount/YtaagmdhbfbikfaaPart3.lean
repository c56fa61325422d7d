/- Part 3 of the walks that the proof leans on. -/
import Derived.Test.YtaagmdhbfbikfaaPart2
import Derived.Test.YtaagmdhbfbikfaaPart1
/- Which of the items meet a block: the program. -/
namespace Go.Proofs.Ytaagmdhbfbikfaa
open Go.RowKit
def VqdM (g : Nat) (a b c d x y s : Int) (_B : Nat) : Nat → Value → World → Prop
  | 0, v, _ => v = Sg a b c d
  | 1, v, _ => v = .pointer (some ⟨g, 0, none⟩)
  | 2, v, _ => v = .pointer (some ⟨g, 0, none⟩)
  | 3, v, _ => v = .pointer (some ⟨g, 0, none⟩)
  | 4, v, _ => v = Sp x y
  | 5, v, _ => v = .pointer (some ⟨g, 0, none⟩)
  | 6, v, _ => v = Sp (x + s) (y + s)
  | 7, v, _ => v = .bool (hitB a b c d x y (x + s) (y + s))
  | 8, v, _ => v = .bool (hitB a b c d x y (x + s) (y + s))
  | _, _, _ => True
theorem VqdM.mono {g : Nat} {a b c d x y s : Int} {B j : Nat} {v : Value} {W W2 : World} (_hB : Below W.heap.size W W2) (h : VqdM g a b c d x y s B j v W) : VqdM g a b c d x y s B j v W2 := by
  unfold VqdM at *
  split <;> simp only at h <;> first | exact h | trivial
set_option maxRecDepth 100000 in
set_option maxHeartbeats 4000000 in
theorem qdM {Q : Exit → Act → World → Prop} {g : Nat} {a b c d x y s : Int} {P : Nat} {lv : Int} {ids kids : Value} {w0 : World} {a0 : Act} {idq : Nat} {t0 t1 t2 t3 t4 t5 t6 t7 t8 : TypeId} {q0 q1 q2 q3 q4 q5 q6 q7 q8 : String}
    (hq : Sq x y s) (ia : In6 a) (ib : In6 b) (ic : In6 c) (id : In6 d) (hx : In6 x) (hy : In6 y) (hu : In6 (x + s)) (hv : In6 (y + s)) (hB0 : BkB w0 g x y s lv ids kids) (h0 : a0.tmps[0]? = some (.pointer (some ⟨g, 0, none⟩))) (h3 : a0.tmps[3]? = some (.pointer (some ⟨P, 0, none⟩))) (k0 : w0.cell? ⟨P, 0, none⟩ = some (.int .i64 a)) (l0 : (⟨P, 0, none⟩ : Addr).block < w0.heap.size) (k1 : w0.cell? ⟨P, 1, none⟩ = some (.int .i64 b)) (l1 : (⟨P, 1, none⟩ : Addr).block < w0.heap.size) (k2 : w0.cell? ⟨P, 2, none⟩ = some (.int .i64 c)) (l2 : (⟨P, 2, none⟩ : Addr).block < w0.heap.size) (k3 : w0.cell? ⟨P, 3, none⟩ = some (.int .i64 d)) (l3 : (⟨P, 3, none⟩ : Addr).block < w0.heap.size) (k4 : w0.cell? ⟨g, 0, none⟩ = some (.int .i64 x)) (l4 : (⟨g, 0, none⟩ : Addr).block < w0.heap.size) (k5 : w0.cell? ⟨g, 1, none⟩ = some (.int .i64 y)) (l5 : (⟨g, 1, none⟩ : Addr).block < w0.heap.size) (hz : a0.tmps.size = 13)
    (hQ : ∀ aq W, aq.tmps.size = a0.tmps.size → aq.defers = a0.defers → (∀ e, e ∉ ([5, 6, 7, 8, 9, 10, 11, 12, 4] : List Nat) → aq.tmps[e]? = a0.tmps[e]?) → VqdM g a b c d x y s w0.heap.size 8 (aq.tmps.getD 4 undef) W → Below w0.heap.size w0 W → Q .normal aq W) :
    (Code.region idq #[{ dst := some 5, op := Op.load 73 (Operand.tmp 3), type := t0, pos := q0, after := #[], guard := none },
    { dst := some 6, op := Op.move (Operand.tmp 0), type := t1, pos := q1, after := #[], guard := none },
    { dst := some 7, op := Op.nilCheck (Operand.tmp 6), type := t2, pos := q2, after := #[{ on := 1, ground := Ground.data }], guard := none },
    { dst := some 8, op := Op.fieldAddr 69 (Operand.tmp 7) 0, type := t3, pos := q3, after := #[{ on := 2, ground := Ground.data }], guard := none },
    { dst := some 9, op := Op.load 42 (Operand.tmp 8), type := t4, pos := q4, after := #[{ on := 3, ground := Ground.data }], guard := none },
    { dst := some 10, op := Op.move (Operand.tmp 0), type := t5, pos := q5, after := #[], guard := none },
    { dst := some 11, op := Op.call { callee := Callee.value (Operand.func 56), args := #[Operand.tmp 10], argTypes := #[64] }, type := t6, pos := q6, after := #[{ on := 5, ground := Ground.data }], guard := none },
    { dst := some 12, op := Op.call { callee := Callee.value (Operand.func 58), args := #[Operand.tmp 5, Operand.tmp 9, Operand.tmp 11], argTypes := #[73, 42, 42] }, type := t7, pos := q7, after := #[{ on := 0, ground := Ground.data }, { on := 4, ground := Ground.data }, { on := 6, ground := Ground.data }, { on := 6, ground := Ground.chain }], guard := none },
    { dst := some 4, op := Op.assign (Operand.tmp 12), type := t8, pos := q8, after := #[{ on := 7, ground := Ground.data }, { on := 7, ground := Ground.chain }, { on := 0, ground := Ground.phase }, { on := 1, ground := Ground.phase }, { on := 2, ground := Ground.phase }, { on := 3, ground := Ground.phase }, { on := 4, ground := Ground.phase }, { on := 5, ground := Ground.phase }, { on := 6, ground := Ground.phase }, { on := 7, ground := Ground.phase }], guard := none }] true).wp Try.prog Q a0 w0 := by
  have hS : distS [some 5, some 6, some 7, some 8, some 9, some 10, some 11, some 12, some 4] = true := rfl
  refine wp_region_q (by kernel_rfl) w0.heap.size [some 5, some 6, some 7, some 8, some 9, some 10, some 11, some 12, some 4] (VqdM g a b c d x y s w0.heap.size) rfl ?_ ?_
  · intro Q lq aq W iq oq hJ hl ho hall
    have hJ2 := hJ
    obtain ⟨z1, z2, z3, z4, z5, z6, z7⟩ := hJ
    have g0 : aq.tmps.getD 0 undef = .pointer (some ⟨g, 0, none⟩) := by rw [Array.getD_eq_getD_getElem?, z4 0 (by decide), h0]; rfl
    have g3 : aq.tmps.getD 3 undef = .pointer (some ⟨P, 0, none⟩) := by rw [Array.getD_eq_getD_getElem?, z4 3 (by decide), h3]; rfl
    have c0 : W.cell? ⟨P, 0, none⟩ = some (.int .i64 a) := (z5.cell l0).trans k0
    have c1 : W.cell? ⟨P, 1, none⟩ = some (.int .i64 b) := (z5.cell l1).trans k1
    have c2 : W.cell? ⟨P, 2, none⟩ = some (.int .i64 c) := (z5.cell l2).trans k2
    have c3 : W.cell? ⟨P, 3, none⟩ = some (.int .i64 d) := (z5.cell l3).trans k3
    have c4 : W.cell? ⟨g, 0, none⟩ = some (.int .i64 x) := (z5.cell l4).trans k4
    have c5 : W.cell? ⟨g, 1, none⟩ = some (.int .i64 y) := (z5.cell l5).trans k5
    match iq, ho with
    | 0, ho =>
      cases ho
      refine wpOp_of rfl rfl ?_
      have hK := fun (v : Value) (W2 : World) hW hT hv => hJ2.put hS 0 5 rfl (by omega) (W' := W2) hW hT v hv
      clear ho hall hl hQ
      generalize InvQ _ _ _ w0 a0 (lq.setIfInBounds 0 true) = K at hK ⊢
      clear hJ2 hS z1 z2 z3 z4 z6 z7
      go_simp
      exact hK _ _ z5 (fun _ _ h => h) rfl
    | 1, ho =>
      cases ho
      refine wpOp_of rfl rfl ?_
      have hK := fun (v : Value) (W2 : World) hW hT hv => hJ2.put hS 1 6 rfl (by omega) (W' := W2) hW hT v hv
      clear ho hall hl hQ
      generalize InvQ _ _ _ w0 a0 (lq.setIfInBounds 1 true) = K at hK ⊢
      clear hJ2 hS z1 z2 z3 z4 z6 z7
      go_simp
      exact hK _ _ z5 (fun _ _ h => h) rfl
    | 2, ho =>
      cases ho
      refine wpOp_of rfl rfl ?_
      have f1 : (aq.tmps.getD 6 undef) = .pointer (some ⟨g, 0, none⟩) := z6 1 6 (hall { on := 1, ground := Ground.data } (by simp) rfl) rfl
      have hK := fun (v : Value) (W2 : World) hW hT hv => hJ2.put hS 2 7 rfl (by omega) (W' := W2) hW hT v hv
      clear ho hall hl hQ
      generalize InvQ _ _ _ w0 a0 (lq.setIfInBounds 2 true) = K at hK ⊢
      clear hJ2 hS z1 z2 z3 z4 z6 z7
      go_simp
      exact hK _ _ z5 (fun _ _ h => h) rfl
    | 3, ho =>
      cases ho
      refine wpOp_of rfl rfl ?_
      have f2 : (aq.tmps.getD 7 undef) = .pointer (some ⟨g, 0, none⟩) := z6 2 7 (hall { on := 2, ground := Ground.data } (by simp) rfl) rfl
      have hK := fun (v : Value) (W2 : World) hW hT hv => hJ2.put hS 3 8 rfl (by omega) (W' := W2) hW hT v hv
      clear ho hall hl hQ
      generalize InvQ _ _ _ w0 a0 (lq.setIfInBounds 3 true) = K at hK ⊢
      clear hJ2 hS z1 z2 z3 z4 z6 z7
      go_simp
      exact hK _ _ z5 (fun _ _ h => h) rfl
    | 4, ho =>
      cases ho
      refine wpOp_of rfl rfl ?_
      have f3 : (aq.tmps.getD 8 undef) = .pointer (some ⟨g, 0, none⟩) := z6 3 8 (hall { on := 3, ground := Ground.data } (by simp) rfl) rfl
      have hK := fun (v : Value) (W2 : World) hW hT hv => hJ2.put hS 4 9 rfl (by omega) (W' := W2) hW hT v hv
      clear ho hall hl hQ
      generalize InvQ _ _ _ w0 a0 (lq.setIfInBounds 4 true) = K at hK ⊢
      clear hJ2 hS z1 z2 z3 z4 z6 z7
      go_simp
      exact hK _ _ z5 (fun _ _ h => h) rfl
    | 5, ho =>
      cases ho
      refine wpOp_of rfl rfl ?_
      have hK := fun (v : Value) (W2 : World) hW hT hv => hJ2.put hS 5 10 rfl (by omega) (W' := W2) hW hT v hv
      clear ho hall hl hQ
      generalize InvQ _ _ _ w0 a0 (lq.setIfInBounds 5 true) = K at hK ⊢
      clear hJ2 hS z1 z2 z3 z4 z6 z7
      go_simp
      exact hK _ _ z5 (fun _ _ h => h) rfl
    | 6, ho =>
      cases ho
      refine wpOp_of rfl rfl ?_
      have f5 : (aq.tmps.getD 10 undef) = .pointer (some ⟨g, 0, none⟩) := z6 5 10 (hall { on := 5, ground := Ground.data } (by simp) rfl) rfl
      have hK := fun (v : Value) (W2 : World) hW hT hv => hJ2.put hS 6 11 rfl (by omega) (W' := W2) hW hT v hv
      clear ho hall hl hQ
      generalize InvQ _ _ _ w0 a0 (lq.setIfInBounds 6 true) = K at hK ⊢
      clear hJ2 hS z1 z2 z3 z4 z6 z7
      go_simp
      refine (high_any g x y s lv ids kids hq W (hB0.step z5)).mono ?_
      rintro e v1 ⟨rfl, hBv⟩
      exact hK _ _ (z5.trans (hBv.mono z5.size)) (fun j v h => h.mono hBv) rfl
    | 7, ho =>
      cases ho
      refine wpOp_of rfl rfl ?_
      have f0 : (aq.tmps.getD 5 undef) = Sg a b c d := z6 0 5 (hall { on := 0, ground := Ground.data } (by simp) rfl) rfl
      have f4 : (aq.tmps.getD 9 undef) = Sp x y := z6 4 9 (hall { on := 4, ground := Ground.data } (by simp) rfl) rfl
      have f6 : (aq.tmps.getD 11 undef) = Sp (x + s) (y + s) := z6 6 11 (hall { on := 6, ground := Ground.data } (by simp) rfl) rfl
      have hK := fun (v : Value) (W2 : World) hW hT hv => hJ2.put hS 7 12 rfl (by omega) (W' := W2) hW hT v hv
      clear ho hall hl hQ
      generalize InvQ _ _ _ w0 a0 (lq.setIfInBounds 7 true) = K at hK ⊢
      clear hJ2 hS z1 z2 z3 z4 z6 z7
      go_simp
      refine (meetsBox_any a b c d x y (x + s) (y + s) ia ib ic id hx hy hu hv W).mono ?_
      rintro e v1 ⟨rfl, hBv⟩
      exact hK _ _ (z5.trans (hBv.mono z5.size)) (fun j v h => h.mono hBv) rfl
    | 8, ho =>
      cases ho
      refine wpOp_of rfl rfl ?_
      have f7 : (aq.tmps.getD 12 undef) = .bool (hitB a b c d x y (x + s) (y + s)) := z6 7 12 (hall { on := 7, ground := Ground.data } (by simp) rfl) rfl
      have hK := fun (v : Value) (W2 : World) hW hT hv => hJ2.put hS 8 4 rfl (by omega) (W' := W2) hW hT v hv
      clear ho hall hl hQ
      generalize InvQ _ _ _ w0 a0 (lq.setIfInBounds 8 true) = K at hK ⊢
      clear hJ2 hS z1 z2 z3 z4 z6 z7
      go_simp
      exact hK _ _ z5 (fun _ _ h => h) rfl
    | iq + 9, ho => simp at ho
  · intro lq aq W hJ hr
    obtain ⟨z1, z2, z3, z4, z5, z6, z7⟩ := hJ
    have hl := listed_of hr [0, 1, 2, 3, 4, 5, 6, 7, 8] [] (by simp) (by kernel_rfl) (by rw [z1]; decide)
    exact hQ aq W z2 z3 (fun e he => z4 e (by simpa using he)) (z6 8 4 (hl 8 (by simp)) rfl) z5
theorem Sq.in6 {x y s : Int} (h : Sq x y s) : In6 x ∧ In6 y ∧ In6 (x + s) ∧ In6 (y + s) := by
  have q1 := h.x1; have q2 := h.y1; have q3 := h.s1; have q4 := h.x2; have q5 := h.y2
  unfold In6
  omega
set_option maxRecDepth 100000 in
set_option maxHeartbeats 4000000 in
theorem meets_any (g : Nat) (x y s lv : Int) (ids kids : Value) (a b c d : Int) (hq : Sq x y s) (ia : In6 a) (ib : In6 b) (ic : In6 c) (id : In6 d) (w : World) (B0 : BkB w g x y s lv ids kids) : Calls Try.prog 88 #[.pointer (some ⟨g, 0, none⟩), Sg a b c d] w (VP (.bool (hitB a b c d x y (x + s) (y + s))) w) := by
  have R0 : Blk (w.alloc (.cells #[.int .i64 a, .int .i64 b, .int .i64 c, .int .i64 d] 73)) w.heap.size [.int .i64 a, .int .i64 b, .int .i64 c, .int .i64 d] := Blk.new w [.int .i64 a, .int .i64 b, .int .i64 c, .int .i64 d] 73 rfl
  have HB : Below w.heap.size w (w.alloc (.cells #[.int .i64 a, .int .i64 b, .int .i64 c, .int .i64 d] 73)) := (Below.refl _ w).alloc (Nat.le_refl _) _
  have B1 : BkB (w.alloc (.cells #[.int .i64 a, .int .i64 b, .int .i64 c, .int .i64 d] 73)) g x y s lv ids kids := B0.alloc _
  have hg := B1.lt
  have hr := R0.lt
  obtain ⟨q1, q2, q3, q4⟩ := hq.in6
  go_enter Try.func88, Try.ntmps88
  go_upto_region 1 with fail
  generalize (w.alloc (.cells #[.int .i64 a, .int .i64 b, .int .i64 c, .int .i64 d] 73)) = W1 at *
  refine qdM (P := w.heap.size) (g := g) (a := a) (b := b) (c := c) (d := d) (x := x) (y := y) (s := s) hq ia ib ic id q1 q2 q3 q4 B1 rfl rfl (R0.c 0 rfl) hr (R0.c 1 rfl) hr (R0.c 2 rfl) hr (R0.c 3 rfl) hr (B1.c 0 rfl) hg (B1.c 1 rfl) hg rfl ?_
  rintro ⟨tm, df⟩ Wz hz hdf hoff h4 hBz
  simp only at hz hdf hoff h4
  change tm.getD 4 undef = .bool (hitB a b c d x y (x + s) (y + s)) at h4
  subst hdf
  have htm := tmps_fold [5, 6, 7, 8, 9, 10, 11, 12, 4] tm _ hz hoff
  simp only [List.foldl, List.setIfInBounds_toArray, List.set_cons_zero, List.set_cons_succ, h4] at htm
  clear hz hoff
  generalize tm.getD 5 undef = u0, tm.getD 6 undef = u1, tm.getD 7 undef = u2, tm.getD 8 undef = u3, tm.getD 9 undef = u4, tm.getD 10 undef = u5, tm.getD 11 undef = u6, tm.getD 12 undef = u7 at htm
  clear h4
  subst htm
  have HBF := HB.trans (hBz.mono HB.size)
  clear R0 B1 HB hBz B0
  go_wp2
  go_ret
  exact ⟨rfl, HBF⟩
/-- Items of a list of places lie behind a slice's address. -/
def ItIn (Q : QD) (w : World) (ao : Option Addr) (l : List Nat) : Prop :=
  ∀ j i, l[j]? = some i → ∃ A off, ao = some ⟨A, off, none⟩ ∧ A < w.heap.size ∧ w.cell? ⟨A, off + j * 5, none⟩ = some (.int .i64 (Q.I i)) ∧ w.cell? ⟨A, off + j * 5 + 1, none⟩ = some (.int .i64 (Q.S i).1) ∧ w.cell? ⟨A, off + j * 5 + 2, none⟩ = some (.int .i64 (Q.S i).2.1) ∧ w.cell? ⟨A, off + j * 5 + 3, none⟩ = some (.int .i64 (Q.S i).2.2.1) ∧ w.cell? ⟨A, off + j * 5 + 4, none⟩ = some (.int .i64 (Q.S i).2.2.2)
theorem ItIn.step {Q : QD} {w w' : World} {ao : Option Addr} {l : List Nat} (h : ItIn Q w ao l) (hB : Below w.heap.size w w') : ItIn Q w' ao l := fun j i hj => by
  obtain ⟨A, off, e, hA, c0, c1, c2, c3, c4⟩ := h j i hj
  exact ⟨A, off, e, Nat.lt_of_lt_of_le hA hB.size, (hB.cell (p := ⟨A, _, none⟩) hA).trans c0, (hB.cell (p := ⟨A, _, none⟩) hA).trans c1, (hB.cell (p := ⟨A, _, none⟩) hA).trans c2, (hB.cell (p := ⟨A, _, none⟩) hA).trans c3, (hB.cell (p := ⟨A, _, none⟩) hA).trans c4⟩
def it5 (Q : QD) (i : Nat) : List Value := [.int .i64 (Q.I i), .int .i64 (Q.S i).1, .int .i64 (Q.S i).2.1, .int .i64 (Q.S i).2.2.1, .int .i64 (Q.S i).2.2.2]
def itCs (Q : QD) (l : List Nat) : List Value := l.flatMap (it5 Q)
theorem itCs_app (Q : QD) (l : List Nat) (i : Nat) : itCs Q (l ++ [i]) = itCs Q l ++ it5 Q i := by simp [itCs]
theorem it5_one (Q : QD) (i : Nat) : ∀ u ∈ it5 Q i, u.oneCell' = true := by
  intro u hu
  simp only [it5, List.mem_cons, List.not_mem_nil, or_false] at hu
  rcases hu with rfl | rfl | rfl | rfl | rfl <;> rfl
theorem it5_new (Q : QD) (w : World) (i : Nat) (t : TypeId) : ∀ j v, (it5 Q i)[j]? = some v → (w.alloc (.cells (it5 Q i).toArray t)).cell? ((⟨w.heap.size, 0, none⟩ : Addr).add j) = some v := by
  intro j v hj
  rw [Addr.add_lit, Nat.zero_add]
  exact (Blk.new w (it5 Q i) t rfl).c j hj
theorem Try.infoItem : (Try.prog.info? 75).map (fun i => (i.zero, i.size, i.bytes)) = some (some (.agg #[.int .i64 0, .int .i64 0, .int .i64 0, .int .i64 0, .int .i64 0]), 5, 40) := by kernel_rfl
theorem info_item : ∃ i0, Try.prog.info? 75 = some i0 ∧ i0.zero = some (.agg #[.int .i64 0, .int .i64 0, .int .i64 0, .int .i64 0, .int .i64 0]) ∧ i0.size = 5 ∧ i0.bytes = 40 := by
  obtain ⟨i, hi, hz⟩ := Option.map_eq_some_iff.1 Try.infoItem
  simp only [Prod.mk.injEq] at hz
  exact ⟨i, hi, hz.1, hz.2.1, hz.2.2⟩
theorem fl_more (Q : QD) (l : List Nat) (x y s : Int) {c i : Nat} (h : l[c]? = some i) : flQ Q (l.take (c + 1)) x y s = flQ Q (l.take c) x y s ++ (if hitQ Q x y s i = true then [i] else []) := by
  unfold flQ
  rw [List.take_add_one, h, List.filter_append]
  congr 1
  simp only [Option.toList_some, List.filter_cons, List.filter_nil]
/-- All segments of the items have corners that are not too great. -/
def Its6 (Q : QD) (l : List Nat) : Prop := ∀ i ∈ l, In6 (Q.S i).1 ∧ In6 (Q.S i).2.1 ∧ In6 (Q.S i).2.2.1 ∧ In6 (Q.S i).2.2.2
set_option maxRecDepth 100000 in
set_option maxHeartbeats 4000000 in
theorem meeting_any (Q : QD) (g : Nat) (x y s lv : Int) (ids kids : Value) (ao : Option Addr) (cap : Nat) (l : List Nat) (hq : Sq x y s) (h6 : Its6 Q l) (hl : l.length ≤ 1048576) (w : World) (B0 : BkB w g x y s lv ids kids) (hS : ItIn Q w ao l) : Calls Try.prog 71 #[.pointer (some ⟨g, 0, none⟩), .slice ao l.length cap] w (fun r w' => ∃ v, r = .returned v ∧ w'.ownsRow w.heap.size 75 5 v (flQ Q l x y s).length (itCs Q (flQ Q l x y s)) ∧ Below w.heap.size w w') := by
  obtain ⟨i0, hi, hz0, hz1, hz2⟩ := info_item
  have HS : Hid (ItIn Q w ao l) := hS
  have H6 : Hid (Its6 Q l) := h6
  clear hS h6
  obtain ⟨n, hn⟩ : ∃ n, l.length = n := ⟨_, rfl⟩
  rw [hn] at hl ⊢
  have hnI : (n : Int) ≤ 1048576 := by omega
  go_enter Try.func71, Try.ntmps71
  go_wp2_with fail
  go_loopw [5, 10] (fun o i wr => ∃ c : Nat, c ≤ n ∧ i = .int .i64 c ∧ wr.ownsRow w.heap.size 75 5 o (flQ Q (l.take c) x y s).length (itCs Q (flQ Q (l.take c) x y s)) ∧ Below w.heap.size w wr) (fun _ i _ => n - (intOf i).toNat)
  case atStart => exact ⟨0, by omega, rfl, World.ownsRow_nil _ _ _ _, Below.refl _ _⟩
  case round =>
    obtain ⟨c, hc, rfl, HO, HB⟩ := hrel
    by_cases hcn : c < n
    · obtain ⟨i, hi2⟩ : ∃ i, l[c]? = some i := ⟨_, List.getElem?_eq_getElem (by omega)⟩
      obtain ⟨A, off, rfl, hA, q0, q1, q2, q3, q4⟩ := HS.out.step HB c i hi2
      obtain ⟨ia, ib, ic, id⟩ := H6.out i (List.mem_of_getElem? hi2)
      have hcI : (c : Int) < n := by omega
      have hB1 := (Below.refl wr.heap.size wr).alloc (Nat.le_refl _) (.cells #[.int .i64 (Q.I i), .int .i64 (Q.S i).1, .int .i64 (Q.S i).2.1, .int .i64 (Q.S i).2.2.1, .int .i64 (Q.S i).2.2.2] 75)
      have B1 : Blk (wr.alloc (.cells #[.int .i64 (Q.I i), .int .i64 (Q.S i).1, .int .i64 (Q.S i).2.1, .int .i64 (Q.S i).2.2.1, .int .i64 (Q.S i).2.2.2] 75)) wr.heap.size [.int .i64 (Q.I i), .int .i64 (Q.S i).1, .int .i64 (Q.S i).2.1, .int .i64 (Q.S i).2.2.1, .int .i64 (Q.S i).2.2.2] := Blk.new wr [.int .i64 (Q.I i), .int .i64 (Q.S i).1, .int .i64 (Q.S i).2.1, .int .i64 (Q.S i).2.2.1, .int .i64 (Q.S i).2.2.2] 75 rfl
      have BG : BkB (wr.alloc (.cells #[.int .i64 (Q.I i), .int .i64 (Q.S i).1, .int .i64 (Q.S i).2.1, .int .i64 (Q.S i).2.2.1, .int .i64 (Q.S i).2.2.2] 75)) g x y s lv ids kids := (B0.step HB).alloc _
      have MT : ∀ w, BkB w g x y s lv ids kids → Calls Try.prog 88 #[.pointer (some ⟨g, 0, none⟩), Sg (Q.S i).1 (Q.S i).2.1 (Q.S i).2.2.1 (Q.S i).2.2.2] w (VP (.bool (hitQ Q x y s i)) w) := fun w h => meets_any g x y s lv ids kids (Q.S i).1 (Q.S i).2.1 (Q.S i).2.2.1 (Q.S i).2.2.2 hq ia ib ic id w h
      have HFM := fl_more Q l x y s hi2
      obtain ⟨bh, hbh⟩ : ∃ b, hitQ Q x y s i = b := ⟨_, rfl⟩
      rw [hbh] at MT HFM
      have hfl : (flQ Q (l.take c) x y s).length ≤ n := Nat.le_trans (List.length_filter_le _ _) (by rw [List.length_take]; omega)
      go_upto_region 5 with fail
      replace HO := ownA_step HO hB1
      replace HB := HB.trans (hB1.mono HB.size)
      clear hB1 q0 q1 q2 q3 q4
      generalize (wr.alloc (.cells #[.int .i64 (Q.I i), .int .i64 (Q.S i).1, .int .i64 (Q.S i).2.1, .int .i64 (Q.S i).2.2.1, .int .i64 (Q.S i).2.2.2] 75)) = W5 at *
      have m0 := B1.c 0 rfl; have m1 := B1.c 1 rfl; have m2 := B1.c 2 rfl; have m3 := B1.c 3 rfl; have m4 := B1.c 4 rfl
      go_wp2_with fail
      refine (MT _ BG).mono ?_
      rintro r w1 ⟨rfl, hB2⟩
      replace HO := ownA_step HO hB2
      replace HB := HB.trans (hB2.mono HB.size)
      replace B1 := B1.step hB2
      clear hB2 BG MT m0 m1 m2 m3 m4
      cases bh with
      | false =>
        rw [if_neg (by decide), List.append_nil] at HFM
        rw [← HFM] at HO
        clear B1
        go_wp2
        go_roundw
        case rel => exact ⟨c + 1, by omega, by go_num, HO, HB⟩
        case measure => simp [intOf]; omega
      | true =>
        rw [if_pos rfl] at HFM
        have m0 := B1.c 0 rfl; have m1 := B1.c 1 rfl; have m2 := B1.c 2 rfl; have m3 := B1.c 3 rfl; have m4 := B1.c 4 rfl
        go_wp2_with (at_builtin; refine wpList_append_own _ rfl _ _ 28 rfl w.heap.size 75 i0 (.agg #[.int .i64 0, .int .i64 0, .int .i64 0, .int .i64 0, .int .i64 0]) 5 40 Try.underlying28 hi hz0 hz1 hz2 rfl (by decide) _ _ _ rfl (ownA_step HO ((Below.refl _ _).alloc (Nat.le_refl _) _)) ⟨w1.heap.size, 0, none⟩ 1 1 (it5 Q i) rfl rfl (it5_new _ _ _ _) (it5_one _ _) (by unfold maxLen; omega) (by omega) (by have := HB.size; simp; omega) ?_)
        intro v1 w2 hown1 hgrow1 _
        have HBN : Below w.heap.size w w2 := (HB.alloc HB.size _).grown hgrow1 (by have := HB.size; simp; omega) (fun k hk => (HO.lt k hk).1)
        have HN : w2.ownsRow w.heap.size 75 5 v1 (flQ Q (l.take (c + 1)) x y s).length (itCs Q (flQ Q (l.take (c + 1)) x y s)) := by
          rw [HFM, itCs_app, List.length_append]
          exact hown1
        clear HO HB hown1 hgrow1 m0 m1 m2 m3 m4 B1
        go_wp2
        go_roundw
        case rel => exact ⟨c + 1, by omega, by go_num, HN, HBN⟩
        case measure => simp [intOf]; omega
    · obtain rfl : c = n := by omega
      rw [List.take_of_length_le (by omega)] at HO
      go_wp2
      go_ret
      exact ⟨_, rfl, HO, HB⟩
end Go.Proofs.Ytaagmdhbfbikfaa

/- Rows of items copied and held against one another. -/
namespace Go.Proofs.Ytaagmdhbfbikfaa
open Go.RowKit
set_option maxRecDepth 100000 in
set_option maxHeartbeats 2000000 in
theorem toItem_any (a b c d e : Int) (w : World) : Calls Try.prog 44 #[.agg #[.int .i64 a, .int .i64 b, .int .i64 c, .int .i64 d, .int .i64 e]] w (VP (.agg #[.int .i64 a, .int .i64 b, .int .i64 c, .int .i64 d, .int .i64 e]) w) := by
  have B0 : Blk ((w.alloc (.cells #[.int .i64 a, .int .i64 b, .int .i64 c, .int .i64 d, .int .i64 e] 94)).alloc (.cells #[.int .i64 0, .int .i64 0, .int .i64 0, .int .i64 0, .int .i64 0] 75)) w.heap.size [.int .i64 a, .int .i64 b, .int .i64 c, .int .i64 d, .int .i64 e] := (Blk.new w [.int .i64 a, .int .i64 b, .int .i64 c, .int .i64 d, .int .i64 e] 94 rfl).alloc _
  have B1 : Blk ((w.alloc (.cells #[.int .i64 a, .int .i64 b, .int .i64 c, .int .i64 d, .int .i64 e] 94)).alloc (.cells #[.int .i64 0, .int .i64 0, .int .i64 0, .int .i64 0, .int .i64 0] 75)) (w.heap.size + 1) [.int .i64 0, .int .i64 0, .int .i64 0, .int .i64 0, .int .i64 0] := Blk.new (w.alloc (.cells #[.int .i64 a, .int .i64 b, .int .i64 c, .int .i64 d, .int .i64 e] 94)) [.int .i64 0, .int .i64 0, .int .i64 0, .int .i64 0, .int .i64 0] 75 (by simp)
  have HB : Below w.heap.size w ((w.alloc (.cells #[.int .i64 a, .int .i64 b, .int .i64 c, .int .i64 d, .int .i64 e] 94)).alloc (.cells #[.int .i64 0, .int .i64 0, .int .i64 0, .int .i64 0, .int .i64 0] 75)) := ((Below.refl _ w).alloc (Nat.le_refl _) _).alloc (by simp) _
  have TS := fun w => toSeg_any b c d e w
  go_enter Try.func44, Try.ntmps44
  go_upto_region 1 with fail
  have hs : ((w.alloc (.cells #[.int .i64 a, .int .i64 b, .int .i64 c, .int .i64 d, .int .i64 e] 94)).alloc (.cells #[.int .i64 0, .int .i64 0, .int .i64 0, .int .i64 0, .int .i64 0] 75)).heap.size = w.heap.size + 2 := by simp
  generalize ((w.alloc (.cells #[.int .i64 a, .int .i64 b, .int .i64 c, .int .i64 d, .int .i64 e] 94)).alloc (.cells #[.int .i64 0, .int .i64 0, .int .i64 0, .int .i64 0, .int .i64 0] 75)) = W1 at *
  have B0' := B0
  replace B0 := B0.alloc (.cells #[.int .i64 a, .int .i64 0, .int .i64 0, .int .i64 0, .int .i64 0] 75)
  replace B1 := B1.alloc (.cells #[.int .i64 a, .int .i64 0, .int .i64 0, .int .i64 0, .int .i64 0] 75)
  have B2 := Blk.new W1 [.int .i64 a, .int .i64 0, .int .i64 0, .int .i64 0, .int .i64 0] 75 (g := w.heap.size + 2) hs.symm
  have e0 := (B0'.alloc (.cells #[.int .i64 0, .int .i64 0, .int .i64 0, .int .i64 0, .int .i64 0] 75)).c 0 rfl
  replace HB := HB.alloc HB.size (.cells #[.int .i64 a, .int .i64 0, .int .i64 0, .int .i64 0, .int .i64 0] 75)
  go_upto_region 3 with fail
  clear e0 B0'
  generalize (W1.alloc (.cells #[.int .i64 a, .int .i64 0, .int .i64 0, .int .i64 0, .int .i64 0] 75)) = W2 at *
  clear hs
  have e1 := B0.c 1 rfl; have e2 := B0.c 2 rfl; have e3 := B0.c 3 rfl; have e4 := B0.c 4 rfl
  go_wp2_with fail
  refine (TS _).mono ?_
  rintro r w1 ⟨rfl, hB⟩
  replace B1 := B1.step hB; replace B2 := B2.step hB
  replace HB := HB.trans (hB.mono HB.size)
  clear hB TS e1 e2 e3 e4 B0
  have BN := (((B2.setI 1 (by simp) (.int .i64 b)).setI 2 (by simp) (.int .i64 c)).setI 3 (by simp) (.int .i64 d)).setI 4 (by simp) (.int .i64 e)
  have BM := (((B1.setO (p := ⟨w.heap.size + 2, 1, none⟩) (by show w.heap.size + 1 ≠ w.heap.size + 2; omega) (.int .i64 b)).setO (p := ⟨w.heap.size + 2, 2, none⟩) (by show w.heap.size + 1 ≠ w.heap.size + 2; omega) (.int .i64 c)).setO (p := ⟨w.heap.size + 2, 3, none⟩) (by show w.heap.size + 1 ≠ w.heap.size + 2; omega) (.int .i64 d)).setO (p := ⟨w.heap.size + 2, 4, none⟩) (by show w.heap.size + 1 ≠ w.heap.size + 2; omega) (.int .i64 e)
  have HN := (((HB.setCell (p := ⟨w.heap.size + 2, 1, none⟩) (by show w.heap.size ≤ w.heap.size + 2; omega) (.int .i64 b)).setCell (p := ⟨w.heap.size + 2, 2, none⟩) (by show w.heap.size ≤ w.heap.size + 2; omega) (.int .i64 c)).setCell (p := ⟨w.heap.size + 2, 3, none⟩) (by show w.heap.size ≤ w.heap.size + 2; omega) (.int .i64 d)).setCell (p := ⟨w.heap.size + 2, 4, none⟩) (by show w.heap.size ≤ w.heap.size + 2; omega) (.int .i64 e)
  have d1 := B2.c 1 rfl; have d2 := B2.c 2 rfl; have d3 := B2.c 3 rfl; have d4 := B2.c 4 rfl; have f1 := B2.f 1 rfl; have f2 := B2.f 2 rfl; have f3 := B2.f 3 rfl; have f4 := B2.f 4 rfl
  clear B1 B2 HB
  go_upto_region 4 with fail
  clear d1 d2 d3 d4 f1 f2 f3 f4
  simp only [List.set_cons_zero, List.set_cons_succ] at BN BM
  generalize ((((w1.setCell ⟨w.heap.size + 2, 1, none⟩ (.int .i64 b)).setCell ⟨w.heap.size + 2, 2, none⟩ (.int .i64 c)).setCell ⟨w.heap.size + 2, 3, none⟩ (.int .i64 d)).setCell ⟨w.heap.size + 2, 4, none⟩ (.int .i64 e)) = W3 at *
  have e0 := BN.c 0 rfl; have e1 := BN.c 1 rfl; have e2 := BN.c 2 rfl; have e3 := BN.c 3 rfl; have e4 := BN.c 4 rfl
  have g0 := BM.c 0 rfl; have g1 := BM.c 1 rfl; have g2 := BM.c 2 rfl; have g3 := BM.c 3 rfl; have g4 := BM.c 4 rfl; have h0 := BM.f 0 rfl; have h1 := BM.f 1 rfl; have h2 := BM.f 2 rfl; have h3 := BM.f 3 rfl; have h4 := BM.f 4 rfl
  have BF : Hid (Blk (((((W3.setCell ⟨(w.heap.size + 1), 0, none⟩ (.int .i64 a)).setCell ⟨(w.heap.size + 1), 1, none⟩ (.int .i64 b)).setCell ⟨(w.heap.size + 1), 2, none⟩ (.int .i64 c)).setCell ⟨(w.heap.size + 1), 3, none⟩ (.int .i64 d)).setCell ⟨(w.heap.size + 1), 4, none⟩ (.int .i64 e)) (w.heap.size + 1) [.int .i64 a, .int .i64 b, .int .i64 c, .int .i64 d, .int .i64 e]) := ((((BM.setI 0 (by decide) _).setI 1 (by simp) _).setI 2 (by simp) _).setI 3 (by simp) _).setI 4 (by simp) _
  clear BM BN
  go_wp2
  have r0 := BF.out.c 0 rfl; have r1 := BF.out.c 1 rfl; have r2 := BF.out.c 2 rfl; have r3 := BF.out.c 3 rfl; have r4 := BF.out.c 4 rfl
  refine bodyPost_ret (v := .agg #[.int .i64 a, .int .i64 b, .int .i64 c, .int .i64 d, .int .i64 e]) (by simp [results, Try.results44, go_sem, r0, r1, r2, r3, r4]) rfl ?_
  exact ⟨rfl, ((((HN.setCell (Nat.le_succ _) _).setCell (Nat.le_succ _) _).setCell (Nat.le_succ _) _).setCell (Nat.le_succ _) _).setCell (Nat.le_succ _) _⟩
theorem Try.infoItemZ : (Try.prog.info? 75).map (fun i => (i.zero, i.size, i.bytes)) = some (some (.agg #[.int .i64 0, .int .i64 0, .int .i64 0, .int .i64 0, .int .i64 0]), 5, 40) := by kernel_rfl
theorem make_items (n : Nat) (hn : n ≤ 1048576) (w : World) : (Instr.makeSlice 28 (.int .i64 (n : Int)) (.int .i64 (n : Int))).run Try.prog w = .ok (.slice (some ⟨w.heap.size, 0, none⟩) n n) (w.alloc (.cells (madeCells #[.int .i64 0, .int .i64 0, .int .i64 0, .int .i64 0, .int .i64 0] (n * 5)) 75)) := by
  obtain ⟨i, hi, hzz⟩ := Option.map_eq_some_iff.1 Try.infoItemZ
  simp only [Prod.mk.injEq] at hzz
  obtain ⟨hz, hs, hb⟩ := hzz
  have hr := run_make (P := Try.prog) w 28 75 i (.agg #[.int .i64 0, .int .i64 0, .int .i64 0, .int .i64 0, .int .i64 0]) Try.underlying28 hi hz .i64 .i64 n n (by omega) (Int.le_refl _) (by rw [hb]; omega) (by omega)
  simp only [Int.toNat_natCast, hs, Value.cells] at hr
  exact hr
theorem row_items (w : World) (n : Nat) (T : TypeId) : (w.alloc (.cells (madeCells #[.int .i64 0, .int .i64 0, .int .i64 0, .int .i64 0, .int .i64 0] (n * 5)) T)).rowIs w.heap.size T (n * 5) (fun _ => .int .i64 0) := by
  have h := World.rowIs_alloc w (madeCells #[.int .i64 0, .int .i64 0, .int .i64 0, .int .i64 0, .int .i64 0] (n * 5)) T (fun _ => .int .i64 0) (fun i hi => by
    rw [size_madeCells] at hi
    simp [madeCells, hi]
    rcases (show i % 5 = 0 ∨ i % 5 = 1 ∨ i % 5 = 2 ∨ i % 5 = 3 ∨ i % 5 = 4 by omega) with h | h | h | h | h <;> simp [h])
  rwa [size_madeCells] at h
/-- The cells of a row of items. -/
def xI (Q : QD) (k : Nat) : Int := match k % 5 with
  | 0 => Q.I (k / 5)
  | 1 => (Q.S (k / 5)).1
  | 2 => (Q.S (k / 5)).2.1
  | 3 => (Q.S (k / 5)).2.2.1
  | _ => (Q.S (k / 5)).2.2.2
theorem xI0 (Q : QD) (c : Nat) : xI Q (c * 5) = Q.I c := by unfold xI; rw [show c * 5 % 5 = 0 by omega, show c * 5 / 5 = c by omega]; rfl
theorem xI1 (Q : QD) (c : Nat) : xI Q (c * 5 + 1) = (Q.S c).1 := by unfold xI; rw [show (c * 5 + 1) % 5 = 1 by omega, show (c * 5 + 1) / 5 = c by omega]; rfl
theorem xI2 (Q : QD) (c : Nat) : xI Q (c * 5 + 2) = (Q.S c).2.1 := by unfold xI; rw [show (c * 5 + 2) % 5 = 2 by omega, show (c * 5 + 2) / 5 = c by omega]; rfl
theorem xI3 (Q : QD) (c : Nat) : xI Q (c * 5 + 3) = (Q.S c).2.2.1 := by unfold xI; rw [show (c * 5 + 3) % 5 = 3 by omega, show (c * 5 + 3) / 5 = c by omega]; rfl
theorem xI4 (Q : QD) (c : Nat) : xI Q (c * 5 + 4) = (Q.S c).2.2.2 := by unfold xI; rw [show (c * 5 + 4) % 5 = 4 by omega, show (c * 5 + 4) / 5 = c by omega]; rfl
/-- So far the row holds what was copied, behind it zeros. -/
def cpIt (Q : QD) (c : Nat) (i : Nat) : Value := .int .i64 (if i < c * 5 then xI Q i else 0)
theorem rowI_step {w w' : World} {g n : Nat} {T : TypeId} {f : Nat → Value} (h : w.rowIs g T n f) (hB : Below w.heap.size w w') : w'.rowIs g T n f := h.of_block (hB.block g h.lt)
theorem cpIt_step {w : World} {g n c : Nat} {T : TypeId} {Q : QD} (h : w.rowIs g T (n * 5) (cpIt Q c)) :
    (((((w.setCell ⟨g, c * 5, none⟩ (.int .i64 (Q.I c))).setCell ⟨g, c * 5 + 1, none⟩ (.int .i64 (Q.S c).1)).setCell ⟨g, c * 5 + 2, none⟩ (.int .i64 (Q.S c).2.1)).setCell ⟨g, c * 5 + 3, none⟩ (.int .i64 (Q.S c).2.2.1)).setCell ⟨g, c * 5 + 4, none⟩ (.int .i64 (Q.S c).2.2.2)).rowIs g T (n * 5) (cpIt Q (c + 1)) := by
  refine (((((h.set (c * 5) (.int .i64 (Q.I c))).set (c * 5 + 1) (.int .i64 (Q.S c).1)).set (c * 5 + 2) (.int .i64 (Q.S c).2.1)).set (c * 5 + 3) (.int .i64 (Q.S c).2.2.1)).set (c * 5 + 4) (.int .i64 (Q.S c).2.2.2)).congr (fun i hi => ?_)
  unfold cpIt
  by_cases h4 : i = c * 5 + 4
  · subst h4; rw [xI4]; simp <;> omega
  by_cases h3 : i = c * 5 + 3
  · subst h3; rw [xI3]; simp <;> omega
  by_cases h2 : i = c * 5 + 2
  · subst h2; rw [xI2]; simp <;> omega
  by_cases h1 : i = c * 5 + 1
  · subst h1; rw [xI1]; simp <;> omega
  by_cases h0 : i = c * 5
  · subst h0; rw [xI0]; simp <;> omega
  simp [h4, h3, h2, h1, h0]
  by_cases hl : i < c * 5
  · simp [hl] <;> omega
  · simp [hl] <;> omega
theorem itIn_row {w : World} {g : Nat} {T : TypeId} {Q : QD} (h : w.rowIs g T (Q.m * 5) (fun i => .int .i64 (xI Q i))) : ItIn Q w (some ⟨g, 0, none⟩) (List.range Q.m) := fun j i hj => by
  have hjm : j < Q.m := by have := (List.getElem?_eq_some_iff.1 hj).1; simpa using this
  obtain rfl : j = i := by simpa [hjm] using hj
  refine ⟨g, 0, rfl, h.lt, ?_, ?_, ?_, ?_, ?_⟩
  · rw [Nat.zero_add, h.cell (by omega), xI0]
  · rw [Nat.zero_add, h.cell (by omega), xI1]
  · rw [Nat.zero_add, h.cell (by omega), xI2]
  · rw [Nat.zero_add, h.cell (by omega), xI3]
  · rw [Nat.zero_add, h.cell (by omega), xI4]
set_option maxRecDepth 100000 in
set_option maxHeartbeats 2000000 in
theorem toItemS_any (Q : QD) (ao : Option Addr) (cap : Nat) (hm : Q.m ≤ 1048576) (w : World) (hS : ItIn Q w ao (List.range Q.m)) : Calls Try.prog 23 #[.slice ao Q.m cap] w (fun e w' => ∃ g, e = .returned (.slice (some ⟨g, 0, none⟩) Q.m Q.m) ∧ w.heap.size ≤ g ∧ w'.rowIs g 75 (Q.m * 5) (fun i => .int .i64 (xI Q i)) ∧ Below w.heap.size w w') := by
  obtain ⟨n, hn⟩ : ∃ n, Q.m = n := ⟨_, rfl⟩
  rw [hn] at hm hS ⊢
  clear hn
  have MK := make_items n hm
  have HS : Hid (ItIn Q w ao (List.range n)) := hS
  clear hS
  go_enter Try.func23, Try.ntmps23
  go_wp2_with fail
  have R0 := row_items w n 75
  have B0 : Below w.heap.size w (w.alloc (.cells (madeCells #[.int .i64 0, .int .i64 0, .int .i64 0, .int .i64 0, .int .i64 0] (n * 5)) 75)) := (Below.refl _ _).alloc (Nat.le_refl _) _
  generalize w.alloc (.cells (madeCells #[.int .i64 0, .int .i64 0, .int .i64 0, .int .i64 0, .int .i64 0] (n * 5)) 75) = W1 at *
  have hnI : (n : Int) ≤ 1048576 := by omega
  clear MK
  go_loopw [4] (fun i wr => ∃ c : Nat, c ≤ n ∧ i = .int .i64 c ∧ wr.rowIs w.heap.size 75 (n * 5) (cpIt Q c) ∧ Below w.heap.size w wr) (fun i _ => n - (intOf i).toNat)
  case atStart => exact ⟨0, by omega, rfl, R0.congr (fun i _ => by unfold cpIt; simp), B0⟩
  case round =>
    clear R0 B0
    obtain ⟨c, hc, rfl, R, HB⟩ := hrel
    by_cases hcn : c < n
    · obtain ⟨A, off, rfl, hA, q0, q1, q2, q3, q4⟩ := HS.out.step HB c c (by simp [hcn])
      have hcI : (c : Int) < n := by omega
      have TL := fun w => toItem_any (Q.I c) (Q.S c).1 (Q.S c).2.1 (Q.S c).2.2.1 (Q.S c).2.2.2 w
      go_wp2_with fail
      refine (TL _).mono ?_
      rintro e w1 ⟨rfl, hB⟩
      replace R := rowI_step R hB
      replace HB := HB.trans (hB.mono HB.size)
      have p0 := R.cell (i := c * 5) (by omega); have p1 := R.cell (i := c * 5 + 1) (by omega); have p2 := R.cell (i := c * 5 + 2) (by omega); have p3 := R.cell (i := c * 5 + 3) (by omega); have p4 := R.cell (i := c * 5 + 4) (by omega)
      have f0 := R.frozen (c * 5); have f1 := R.frozen (c * 5 + 1); have f2 := R.frozen (c * 5 + 2); have f3 := R.frozen (c * 5 + 3); have f4 := R.frozen (c * 5 + 4)
      have RN := cpIt_step R
      have HN : Below w.heap.size w (((((w1.setCell ⟨w.heap.size, c * 5, none⟩ (.int .i64 (Q.I c))).setCell ⟨w.heap.size, c * 5 + 1, none⟩ (.int .i64 (Q.S c).1)).setCell ⟨w.heap.size, c * 5 + 2, none⟩ (.int .i64 (Q.S c).2.1)).setCell ⟨w.heap.size, c * 5 + 3, none⟩ (.int .i64 (Q.S c).2.2.1)).setCell ⟨w.heap.size, c * 5 + 4, none⟩ (.int .i64 (Q.S c).2.2.2)) := ((((HB.setCell (by simp) _).setCell (by simp) _).setCell (by simp) _).setCell (by simp) _).setCell (by simp) _
      clear hB q0 q1 q2 q3 q4 hA R HB TL
      go_wp2
      go_roundw
      case rel => exact ⟨c + 1, by omega, by go_num, RN, HN⟩
      case measure => simp [intOf]; omega
    · obtain rfl : c = n := by omega
      have RN : wr.rowIs w.heap.size 75 (c * 5) (fun i => .int .i64 (xI Q i)) := R.congr (fun i hi => by unfold cpIt; rw [if_pos hi])
      clear R HS
      go_wp2
      go_ret
      exact ⟨_, rfl, Nat.le_refl _, RN, HB⟩
set_option maxRecDepth 100000 in
set_option maxHeartbeats 2000000 in
theorem eqItem_same (a b c d e : Int) (w : World) : Calls Try.prog 51 #[.agg #[.int .i64 a, .int .i64 b, .int .i64 c, .int .i64 d, .int .i64 e], .agg #[.int .i64 a, .int .i64 b, .int .i64 c, .int .i64 d, .int .i64 e]] w (VP (.bool true) w) := by
  have B0 := (Blk.new w [.int .i64 a, .int .i64 b, .int .i64 c, .int .i64 d, .int .i64 e] 75 rfl).alloc (.cells #[.int .i64 a, .int .i64 b, .int .i64 c, .int .i64 d, .int .i64 e] 75)
  have B1 := Blk.new (w.alloc (.cells #[.int .i64 a, .int .i64 b, .int .i64 c, .int .i64 d, .int .i64 e] 75)) [.int .i64 a, .int .i64 b, .int .i64 c, .int .i64 d, .int .i64 e] 75 (g := w.heap.size + 1) (by simp)
  have HB := ((Below.refl _ w).alloc (Nat.le_refl _) (.cells #[.int .i64 a, .int .i64 b, .int .i64 c, .int .i64 d, .int .i64 e] 75)).alloc (by simp) (.cells #[.int .i64 a, .int .i64 b, .int .i64 c, .int .i64 d, .int .i64 e] 75)
  go_enter Try.func51, Try.ntmps51
  go_upto_region 1 with fail
  generalize ((w.alloc (.cells #[.int .i64 a, .int .i64 b, .int .i64 c, .int .i64 d, .int .i64 e] 75)).alloc (.cells #[.int .i64 a, .int .i64 b, .int .i64 c, .int .i64 d, .int .i64 e] 75)) = W1 at *
  have p0 := B0.c 0 rfl; have p1 := B0.c 1 rfl; have p2 := B0.c 2 rfl; have p3 := B0.c 3 rfl; have p4 := B0.c 4 rfl
  have q0 := B1.c 0 rfl; have q1 := B1.c 1 rfl; have q2 := B1.c 2 rfl; have q3 := B1.c 3 rfl; have q4 := B1.c 4 rfl
  clear B0 B1
  go_wp2_with fail
  refine (eqSeg_same b c d e _).mono ?_
  rintro r w1 ⟨rfl, hB⟩
  have HB2 := HB.trans (hB.mono HB.size)
  clear hB HB p0 p1 p2 p3 p4 q0 q1 q2 q3 q4
  go_wp2
  go_ret
  exact ⟨rfl, HB2⟩
def VqeI (A off D od n ca cb c : Nat) (a b p d e : Int) (_B : Nat) : Nat → Value → World → Prop
  | 0, v, _ => v = .slice (some ⟨A, off, none⟩) n ca
  | 1, v, _ => v = .int .i64 (c : Int)
  | 2, v, _ => v = .pointer (some ⟨A, off + c * 5, none⟩)
  | 3, v, _ => v = .agg #[.int .i64 a, .int .i64 b, .int .i64 p, .int .i64 d, .int .i64 e]
  | 4, v, _ => v = .slice (some ⟨D, od, none⟩) n cb
  | 5, v, _ => v = .int .i64 (c : Int)
  | 6, v, _ => v = .pointer (some ⟨D, od + c * 5, none⟩)
  | 7, v, _ => v = .agg #[.int .i64 a, .int .i64 b, .int .i64 p, .int .i64 d, .int .i64 e]
  | 8, v, _ => v = .bool true
  | 9, v, _ => v = .bool false
  | _, _, _ => True
theorem VqeI.mono {A off D od n ca cb c : Nat} {a b p d e : Int} {B j : Nat} {v : Value} {W W2 : World} (_hB : Below W.heap.size W W2) (h : VqeI A off D od n ca cb c a b p d e B j v W) : VqeI A off D od n ca cb c a b p d e B j v W2 := by
  unfold VqeI at *
  split <;> simp only at h <;> first | exact h | trivial
set_option maxRecDepth 100000 in
set_option maxHeartbeats 4000000 in
theorem qeI {Q : Exit → Act → World → Prop} {A off D od n ca cb c : Nat} {a b p d e : Int}  {w0 : World} {a0 : Act} {idq : Nat} {t0 t1 t2 t3 t4 t5 t6 t7 t8 t9 : TypeId} {q0 q1 q2 q3 q4 q5 q6 q7 q8 q9 : String}
    (hcn : c < n) (hn : n ≤ 1048576) (h0 : a0.tmps[0]? = some (.slice (some ⟨A, off, none⟩) n ca)) (h1 : a0.tmps[1]? = some (.slice (some ⟨D, od, none⟩) n cb)) (h5 : a0.tmps[5]? = some (.int .i64 (c : Int))) (k0 : w0.cell? ⟨A, off + c * 5, none⟩ = some (.int .i64 a)) (l0 : (⟨A, off + c * 5, none⟩ : Addr).block < w0.heap.size) (k1 : w0.cell? ⟨A, off + c * 5 + 1, none⟩ = some (.int .i64 b)) (l1 : (⟨A, off + c * 5 + 1, none⟩ : Addr).block < w0.heap.size) (k2 : w0.cell? ⟨A, off + c * 5 + 2, none⟩ = some (.int .i64 p)) (l2 : (⟨A, off + c * 5 + 2, none⟩ : Addr).block < w0.heap.size) (k3 : w0.cell? ⟨A, off + c * 5 + 3, none⟩ = some (.int .i64 d)) (l3 : (⟨A, off + c * 5 + 3, none⟩ : Addr).block < w0.heap.size) (k4 : w0.cell? ⟨A, off + c * 5 + 4, none⟩ = some (.int .i64 e)) (l4 : (⟨A, off + c * 5 + 4, none⟩ : Addr).block < w0.heap.size) (k5 : w0.cell? ⟨D, od + c * 5, none⟩ = some (.int .i64 a)) (l5 : (⟨D, od + c * 5, none⟩ : Addr).block < w0.heap.size) (k6 : w0.cell? ⟨D, od + c * 5 + 1, none⟩ = some (.int .i64 b)) (l6 : (⟨D, od + c * 5 + 1, none⟩ : Addr).block < w0.heap.size) (k7 : w0.cell? ⟨D, od + c * 5 + 2, none⟩ = some (.int .i64 p)) (l7 : (⟨D, od + c * 5 + 2, none⟩ : Addr).block < w0.heap.size) (k8 : w0.cell? ⟨D, od + c * 5 + 3, none⟩ = some (.int .i64 d)) (l8 : (⟨D, od + c * 5 + 3, none⟩ : Addr).block < w0.heap.size) (k9 : w0.cell? ⟨D, od + c * 5 + 4, none⟩ = some (.int .i64 e)) (l9 : (⟨D, od + c * 5 + 4, none⟩ : Addr).block < w0.heap.size) (hz : a0.tmps.size = 27)
    (hQ : ∀ aq W, aq.tmps.size = a0.tmps.size → aq.defers = a0.defers → (∀ e, e ∉ ([17, 18, 19, 20, 21, 22, 23, 24, 25, 26] : List Nat) → aq.tmps[e]? = a0.tmps[e]?) → VqeI A off D od n ca cb c a b p d e w0.heap.size 9 (aq.tmps.getD 26 undef) W → Below w0.heap.size w0 W → Q .normal aq W) :
    (Code.region idq #[{ dst := some 17, op := Op.move (Operand.tmp 0), type := t0, pos := q0, after := #[], guard := none },
    { dst := some 18, op := Op.move (Operand.tmp 5), type := t1, pos := q1, after := #[], guard := none },
    { dst := some 19, op := Op.indexAddr 28 (Operand.tmp 17) (Operand.tmp 18), type := t2, pos := q2, after := #[{ on := 0, ground := Ground.data }, { on := 1, ground := Ground.data }], guard := none },
    { dst := some 20, op := Op.load 75 (Operand.tmp 19), type := t3, pos := q3, after := #[{ on := 2, ground := Ground.data }], guard := none },
    { dst := some 21, op := Op.move (Operand.tmp 1), type := t4, pos := q4, after := #[], guard := none },
    { dst := some 22, op := Op.move (Operand.tmp 5), type := t5, pos := q5, after := #[], guard := none },
    { dst := some 23, op := Op.indexAddr 28 (Operand.tmp 21) (Operand.tmp 22), type := t6, pos := q6, after := #[{ on := 4, ground := Ground.data }, { on := 5, ground := Ground.data }], guard := none },
    { dst := some 24, op := Op.load 75 (Operand.tmp 23), type := t7, pos := q7, after := #[{ on := 6, ground := Ground.data }], guard := none },
    { dst := some 25, op := Op.call { callee := Callee.value (Operand.func 51), args := #[Operand.tmp 20, Operand.tmp 24], argTypes := #[75, 75] }, type := t8, pos := q8, after := #[{ on := 3, ground := Ground.data }, { on := 7, ground := Ground.data }], guard := none },
    { dst := some 26, op := Op.unOp UnOp.not 4 (Operand.tmp 25), type := t9, pos := q9, after := #[{ on := 8, ground := Ground.data }], guard := none }] true).wp Try.prog Q a0 w0 := by
  have hS : distS [some 17, some 18, some 19, some 20, some 21, some 22, some 23, some 24, some 25, some 26] = true := rfl
  refine wp_region_q (by kernel_rfl) w0.heap.size [some 17, some 18, some 19, some 20, some 21, some 22, some 23, some 24, some 25, some 26] (VqeI A off D od n ca cb c a b p d e w0.heap.size) rfl ?_ ?_
  · intro Q lq aq W iq oq hJ hl ho hall
    have hJ2 := hJ
    obtain ⟨z1, z2, z3, z4, z5, z6, z7⟩ := hJ
    have g0 : aq.tmps.getD 0 undef = .slice (some ⟨A, off, none⟩) n ca := by rw [Array.getD_eq_getD_getElem?, z4 0 (by decide), h0]; rfl
    have g1 : aq.tmps.getD 1 undef = .slice (some ⟨D, od, none⟩) n cb := by rw [Array.getD_eq_getD_getElem?, z4 1 (by decide), h1]; rfl
    have g5 : aq.tmps.getD 5 undef = .int .i64 (c : Int) := by rw [Array.getD_eq_getD_getElem?, z4 5 (by decide), h5]; rfl
    have c0 : W.cell? ⟨A, off + c * 5, none⟩ = some (.int .i64 a) := (z5.cell l0).trans k0
    have c1 : W.cell? ⟨A, off + c * 5 + 1, none⟩ = some (.int .i64 b) := (z5.cell l1).trans k1
    have c2 : W.cell? ⟨A, off + c * 5 + 2, none⟩ = some (.int .i64 p) := (z5.cell l2).trans k2
    have c3 : W.cell? ⟨A, off + c * 5 + 3, none⟩ = some (.int .i64 d) := (z5.cell l3).trans k3
    have c4 : W.cell? ⟨A, off + c * 5 + 4, none⟩ = some (.int .i64 e) := (z5.cell l4).trans k4
    have c5 : W.cell? ⟨D, od + c * 5, none⟩ = some (.int .i64 a) := (z5.cell l5).trans k5
    have c6 : W.cell? ⟨D, od + c * 5 + 1, none⟩ = some (.int .i64 b) := (z5.cell l6).trans k6
    have c7 : W.cell? ⟨D, od + c * 5 + 2, none⟩ = some (.int .i64 p) := (z5.cell l7).trans k7
    have c8 : W.cell? ⟨D, od + c * 5 + 3, none⟩ = some (.int .i64 d) := (z5.cell l8).trans k8
    have c9 : W.cell? ⟨D, od + c * 5 + 4, none⟩ = some (.int .i64 e) := (z5.cell l9).trans k9
    match iq, ho with
    | 0, ho =>
      cases ho
      refine wpOp_of rfl rfl ?_
      have hK := fun (v : Value) (W2 : World) hW hT hv => hJ2.put hS 0 17 rfl (by omega) (W' := W2) hW hT v hv
      clear ho hall hl hQ
      generalize InvQ _ _ _ w0 a0 (lq.setIfInBounds 0 true) = K at hK ⊢
      clear hJ2 hS z1 z2 z3 z4 z6 z7
      go_simp
      exact hK _ _ z5 (fun _ _ h => h) rfl
    | 1, ho =>
      cases ho
      refine wpOp_of rfl rfl ?_
      have hK := fun (v : Value) (W2 : World) hW hT hv => hJ2.put hS 1 18 rfl (by omega) (W' := W2) hW hT v hv
      clear ho hall hl hQ
      generalize InvQ _ _ _ w0 a0 (lq.setIfInBounds 1 true) = K at hK ⊢
      clear hJ2 hS z1 z2 z3 z4 z6 z7
      go_simp
      exact hK _ _ z5 (fun _ _ h => h) rfl
    | 2, ho =>
      cases ho
      refine wpOp_of rfl rfl ?_
      have f0 : (aq.tmps.getD 17 undef) = .slice (some ⟨A, off, none⟩) n ca := z6 0 17 (hall { on := 0, ground := Ground.data } (by simp) rfl) rfl
      have f1 : (aq.tmps.getD 18 undef) = .int .i64 (c : Int) := z6 1 18 (hall { on := 1, ground := Ground.data } (by simp) rfl) rfl
      have hcI : (c : Int) < n := by omega
      have hnI : (n : Int) ≤ 1048576 := by omega
      have hK := fun (v : Value) (W2 : World) hW hT hv => hJ2.put hS 2 19 rfl (by omega) (W' := W2) hW hT v hv
      clear ho hall hl hQ
      generalize InvQ _ _ _ w0 a0 (lq.setIfInBounds 2 true) = K at hK ⊢
      clear hJ2 hS z1 z2 z3 z4 z6 z7
      go_simp
      exact hK _ _ z5 (fun _ _ h => h) rfl
    | 3, ho =>
      cases ho
      refine wpOp_of rfl rfl ?_
      have f2 : (aq.tmps.getD 19 undef) = .pointer (some ⟨A, off + c * 5, none⟩) := z6 2 19 (hall { on := 2, ground := Ground.data } (by simp) rfl) rfl
      have hK := fun (v : Value) (W2 : World) hW hT hv => hJ2.put hS 3 20 rfl (by omega) (W' := W2) hW hT v hv
      clear ho hall hl hQ
      generalize InvQ _ _ _ w0 a0 (lq.setIfInBounds 3 true) = K at hK ⊢
      clear hJ2 hS z1 z2 z3 z4 z6 z7
      go_simp
      exact hK _ _ z5 (fun _ _ h => h) rfl
    | 4, ho =>
      cases ho
      refine wpOp_of rfl rfl ?_
      have hK := fun (v : Value) (W2 : World) hW hT hv => hJ2.put hS 4 21 rfl (by omega) (W' := W2) hW hT v hv
      clear ho hall hl hQ
      generalize InvQ _ _ _ w0 a0 (lq.setIfInBounds 4 true) = K at hK ⊢
      clear hJ2 hS z1 z2 z3 z4 z6 z7
      go_simp
      exact hK _ _ z5 (fun _ _ h => h) rfl
    | 5, ho =>
      cases ho
      refine wpOp_of rfl rfl ?_
      have hK := fun (v : Value) (W2 : World) hW hT hv => hJ2.put hS 5 22 rfl (by omega) (W' := W2) hW hT v hv
      clear ho hall hl hQ
      generalize InvQ _ _ _ w0 a0 (lq.setIfInBounds 5 true) = K at hK ⊢
      clear hJ2 hS z1 z2 z3 z4 z6 z7
      go_simp
      exact hK _ _ z5 (fun _ _ h => h) rfl
    | 6, ho =>
      cases ho
      refine wpOp_of rfl rfl ?_
      have f4 : (aq.tmps.getD 21 undef) = .slice (some ⟨D, od, none⟩) n cb := z6 4 21 (hall { on := 4, ground := Ground.data } (by simp) rfl) rfl
      have f5 : (aq.tmps.getD 22 undef) = .int .i64 (c : Int) := z6 5 22 (hall { on := 5, ground := Ground.data } (by simp) rfl) rfl
      have hcI : (c : Int) < n := by omega
      have hnI : (n : Int) ≤ 1048576 := by omega
      have hK := fun (v : Value) (W2 : World) hW hT hv => hJ2.put hS 6 23 rfl (by omega) (W' := W2) hW hT v hv
      clear ho hall hl hQ
      generalize InvQ _ _ _ w0 a0 (lq.setIfInBounds 6 true) = K at hK ⊢
      clear hJ2 hS z1 z2 z3 z4 z6 z7
      go_simp
      exact hK _ _ z5 (fun _ _ h => h) rfl
    | 7, ho =>
      cases ho
      refine wpOp_of rfl rfl ?_
      have f6 : (aq.tmps.getD 23 undef) = .pointer (some ⟨D, od + c * 5, none⟩) := z6 6 23 (hall { on := 6, ground := Ground.data } (by simp) rfl) rfl
      have hK := fun (v : Value) (W2 : World) hW hT hv => hJ2.put hS 7 24 rfl (by omega) (W' := W2) hW hT v hv
      clear ho hall hl hQ
      generalize InvQ _ _ _ w0 a0 (lq.setIfInBounds 7 true) = K at hK ⊢
      clear hJ2 hS z1 z2 z3 z4 z6 z7
      go_simp
      exact hK _ _ z5 (fun _ _ h => h) rfl
    | 8, ho =>
      cases ho
      refine wpOp_of rfl rfl ?_
      have f3 : (aq.tmps.getD 20 undef) = .agg #[.int .i64 a, .int .i64 b, .int .i64 p, .int .i64 d, .int .i64 e] := z6 3 20 (hall { on := 3, ground := Ground.data } (by simp) rfl) rfl
      have f7 : (aq.tmps.getD 24 undef) = .agg #[.int .i64 a, .int .i64 b, .int .i64 p, .int .i64 d, .int .i64 e] := z6 7 24 (hall { on := 7, ground := Ground.data } (by simp) rfl) rfl
      have hK := fun (v : Value) (W2 : World) hW hT hv => hJ2.put hS 8 25 rfl (by omega) (W' := W2) hW hT v hv
      clear ho hall hl hQ
      generalize InvQ _ _ _ w0 a0 (lq.setIfInBounds 8 true) = K at hK ⊢
      clear hJ2 hS z1 z2 z3 z4 z6 z7
      go_simp
      refine (eqItem_same a b p d e W).mono ?_
      rintro e v1 ⟨rfl, hBv⟩
      exact hK _ _ (z5.trans (hBv.mono z5.size)) (fun j v h => h.mono hBv) rfl
    | 9, ho =>
      cases ho
      refine wpOp_of rfl rfl ?_
      have f8 : (aq.tmps.getD 25 undef) = .bool true := z6 8 25 (hall { on := 8, ground := Ground.data } (by simp) rfl) rfl
      have hK := fun (v : Value) (W2 : World) hW hT hv => hJ2.put hS 9 26 rfl (by omega) (W' := W2) hW hT v hv
      clear ho hall hl hQ
      generalize InvQ _ _ _ w0 a0 (lq.setIfInBounds 9 true) = K at hK ⊢
      clear hJ2 hS z1 z2 z3 z4 z6 z7
      go_simp
      exact hK _ _ z5 (fun _ _ h => h) rfl
    | iq + 10, ho => simp at ho
  · intro lq aq W hJ hr
    obtain ⟨z1, z2, z3, z4, z5, z6, z7⟩ := hJ
    have hl := listed_of hr [0, 1, 2, 3, 4, 5, 6, 7, 8, 9] [] (by simp) (by kernel_rfl) (by rw [z1]; decide)
    exact hQ aq W z2 z3 (fun e he => z4 e (by simpa using he)) (z6 9 26 (hl 9 (by simp)) rfl) z5
set_option maxRecDepth 100000 in
set_option maxHeartbeats 2000000 in
theorem eqItemS_any (Q : QD) (ao bo : Option Addr) (ca cb : Nat) (hm : Q.m ≤ 1048576) (w : World) (hA : ItIn Q w ao (List.range Q.m)) (hC : ItIn Q w bo (List.range Q.m)) : Calls Try.prog 26 #[.slice ao Q.m ca, .slice bo Q.m cb] w (VP (.bool true) w) := by
  obtain ⟨n, hn⟩ : ∃ n, Q.m = n := ⟨_, rfl⟩
  rw [hn] at hm hA hC ⊢
  clear hn
  have HA : Hid (ItIn Q w ao (List.range n)) := hA
  have HC : Hid (ItIn Q w bo (List.range n)) := hC
  have hnI : (n : Int) ≤ 1048576 := by omega
  clear hA hC
  go_enter Try.func26, Try.ntmps26
  go_wp2_with fail
  go_loopw [5] (fun i wr => ∃ c : Nat, c ≤ n ∧ i = .int .i64 c ∧ Below w.heap.size w wr) (fun i _ => n - (intOf i).toNat)
  case atStart => exact ⟨0, by omega, rfl, Below.refl _ _⟩
  case round =>
    obtain ⟨c, hc, rfl, HB⟩ := hrel
    by_cases hcn : c < n
    · obtain ⟨A, off, rfl, hA, q0, q1, q2, q3, q4⟩ := HA.out.step HB c c (by simp [hcn])
      obtain ⟨D, od, rfl, hD, r0, r1, r2, r3, r4⟩ := HC.out.step HB c c (by simp [hcn])
      have hcI : (c : Int) < n := by omega
      go_upto_region 6 with fail
      refine qeI (A := A) (off := off) (D := D) (od := od) (n := n) (ca := ca) (cb := cb) (c := c) (a := Q.I c) (b := (Q.S c).1) (p := (Q.S c).2.1) (d := (Q.S c).2.2.1) (e := (Q.S c).2.2.2) hcn hm rfl rfl rfl q0 hA q1 hA q2 hA q3 hA q4 hA r0 hD r1 hD r2 hD r3 hD r4 hD rfl ?_
      rintro ⟨tm, df⟩ Wz hz hdf hoff hx hBz
      simp only at hz hdf hoff hx
      change tm.getD 26 undef = .bool false at hx
      subst hdf
      have htm := tmps_fold [17, 18, 19, 20, 21, 22, 23, 24, 25, 26] tm _ hz hoff
      simp only [List.foldl, List.setIfInBounds_toArray, List.set_cons_zero, List.set_cons_succ, hx] at htm
      clear hz hoff
      generalize tm.getD 17 undef = pz0, tm.getD 18 undef = pz1, tm.getD 19 undef = pz2, tm.getD 20 undef = pz3, tm.getD 21 undef = pz4, tm.getD 22 undef = pz5, tm.getD 23 undef = pz6, tm.getD 24 undef = pz7, tm.getD 25 undef = pz8 at htm
      clear hx
      subst htm
      have HB2 := HB.trans (hBz.mono HB.size)
      clear HB hBz q0 q1 q2 q3 q4 r0 r1 r2 r3 r4
      go_wp2
      go_roundw
      case rel => exact ⟨c + 1, by omega, by go_num, HB2⟩
      case measure => simp [intOf]; omega
    · obtain rfl : c = n := by omega
      clear HA HC
      go_wp2
      go_ret
      exact ⟨rfl, HB⟩
end Go.Proofs.Ytaagmdhbfbikfaa

/- The numbers of the items that meet a block; rows of numbers that are the same. -/
namespace Go.Proofs.Ytaagmdhbfbikfaa
open Go.RowKit
def VqdE (A oa n ca B2 ob m cb c : Nat) (x y : Int) (_B : Nat) : Nat → Value → World → Prop
  | 0, v, _ => v = .slice (some ⟨A, oa, none⟩) n ca
  | 1, v, _ => v = .int .i64 (c : Int)
  | 2, v, _ => v = .pointer (some ⟨A, oa + c, none⟩)
  | 3, v, _ => v = .int .i64 x
  | 4, v, _ => v = .slice (some ⟨B2, ob, none⟩) m cb
  | 5, v, _ => v = .int .i64 (c : Int)
  | 6, v, _ => v = .pointer (some ⟨B2, ob + c, none⟩)
  | 7, v, _ => v = .int .i64 y
  | 8, v, _ => v = .bool (decide (¬ (x = y)))
  | _, _, _ => True
theorem VqdE.mono {A oa n ca B2 ob m cb c : Nat} {x y : Int} {B j : Nat} {v : Value} {W W2 : World} (_hB : Below W.heap.size W W2) (h : VqdE A oa n ca B2 ob m cb c x y B j v W) : VqdE A oa n ca B2 ob m cb c x y B j v W2 := by
  unfold VqdE at *
  split <;> simp only at h <;> first | exact h | trivial
set_option maxRecDepth 100000 in
set_option maxHeartbeats 4000000 in
theorem qdE {Q : Exit → Act → World → Prop} {A oa n ca B2 ob m cb c : Nat} {x y : Int}  {w0 : World} {a0 : Act} {idq : Nat} {t0 t1 t2 t3 t4 t5 t6 t7 t8 : TypeId} {q0 q1 q2 q3 q4 q5 q6 q7 q8 : String}
    (hcn : c < n) (hcm : c < m) (hn : n ≤ 1048576) (h0 : a0.tmps[0]? = some (.slice (some ⟨A, oa, none⟩) n ca)) (h1 : a0.tmps[1]? = some (.slice (some ⟨B2, ob, none⟩) m cb)) (h5 : a0.tmps[5]? = some (.int .i64 (c : Int))) (k0 : w0.cell? ⟨A, oa + c, none⟩ = some (.int .i64 x)) (l0 : (⟨A, oa + c, none⟩ : Addr).block < w0.heap.size) (k1 : w0.cell? ⟨B2, ob + c, none⟩ = some (.int .i64 y)) (l1 : (⟨B2, ob + c, none⟩ : Addr).block < w0.heap.size) (hz : a0.tmps.size = 26)
    (hQ : ∀ aq W, aq.tmps.size = a0.tmps.size → aq.defers = a0.defers → (∀ e, e ∉ ([16, 17, 18, 19, 20, 21, 22, 23, 24] : List Nat) → aq.tmps[e]? = a0.tmps[e]?) → VqdE A oa n ca B2 ob m cb c x y w0.heap.size 8 (aq.tmps.getD 24 undef) W → Below w0.heap.size w0 W → Q .normal aq W) :
    (Code.region idq #[{ dst := some 16, op := Op.move (Operand.tmp 0), type := t0, pos := q0, after := #[], guard := none },
    { dst := some 17, op := Op.move (Operand.tmp 5), type := t1, pos := q1, after := #[], guard := none },
    { dst := some 18, op := Op.indexAddr 39 (Operand.tmp 16) (Operand.tmp 17), type := t2, pos := q2, after := #[{ on := 0, ground := Ground.data }, { on := 1, ground := Ground.data }], guard := none },
    { dst := some 19, op := Op.load 2 (Operand.tmp 18), type := t3, pos := q3, after := #[{ on := 2, ground := Ground.data }], guard := none },
    { dst := some 20, op := Op.move (Operand.tmp 1), type := t4, pos := q4, after := #[], guard := none },
    { dst := some 21, op := Op.move (Operand.tmp 5), type := t5, pos := q5, after := #[], guard := none },
    { dst := some 22, op := Op.indexAddr 39 (Operand.tmp 20) (Operand.tmp 21), type := t6, pos := q6, after := #[{ on := 4, ground := Ground.data }, { on := 5, ground := Ground.data }], guard := none },
    { dst := some 23, op := Op.load 2 (Operand.tmp 22), type := t7, pos := q7, after := #[{ on := 6, ground := Ground.data }], guard := none },
    { dst := some 24, op := Op.binOp BinOp.neq 2 (Operand.tmp 19) (Operand.tmp 23) 2, type := t8, pos := q8, after := #[{ on := 3, ground := Ground.data }, { on := 7, ground := Ground.data }], guard := none }] true).wp Try.prog Q a0 w0 := by
  have hS : distS [some 16, some 17, some 18, some 19, some 20, some 21, some 22, some 23, some 24] = true := rfl
  refine wp_region_q (by kernel_rfl) w0.heap.size [some 16, some 17, some 18, some 19, some 20, some 21, some 22, some 23, some 24] (VqdE A oa n ca B2 ob m cb c x y w0.heap.size) rfl ?_ ?_
  · intro Q lq aq W iq oq hJ hl ho hall
    have hJ2 := hJ
    obtain ⟨z1, z2, z3, z4, z5, z6, z7⟩ := hJ
    have g0 : aq.tmps.getD 0 undef = .slice (some ⟨A, oa, none⟩) n ca := by rw [Array.getD_eq_getD_getElem?, z4 0 (by decide), h0]; rfl
    have g1 : aq.tmps.getD 1 undef = .slice (some ⟨B2, ob, none⟩) m cb := by rw [Array.getD_eq_getD_getElem?, z4 1 (by decide), h1]; rfl
    have g5 : aq.tmps.getD 5 undef = .int .i64 (c : Int) := by rw [Array.getD_eq_getD_getElem?, z4 5 (by decide), h5]; rfl
    have c0 : W.cell? ⟨A, oa + c, none⟩ = some (.int .i64 x) := (z5.cell l0).trans k0
    have c1 : W.cell? ⟨B2, ob + c, none⟩ = some (.int .i64 y) := (z5.cell l1).trans k1
    match iq, ho with
    | 0, ho =>
      cases ho
      refine wpOp_of rfl rfl ?_
      have hK := fun (v : Value) (W2 : World) hW hT hv => hJ2.put hS 0 16 rfl (by omega) (W' := W2) hW hT v hv
      clear ho hall hl hQ
      generalize InvQ _ _ _ w0 a0 (lq.setIfInBounds 0 true) = K at hK ⊢
      clear hJ2 hS z1 z2 z3 z4 z6 z7
      go_simp
      exact hK _ _ z5 (fun _ _ h => h) rfl
    | 1, ho =>
      cases ho
      refine wpOp_of rfl rfl ?_
      have hK := fun (v : Value) (W2 : World) hW hT hv => hJ2.put hS 1 17 rfl (by omega) (W' := W2) hW hT v hv
      clear ho hall hl hQ
      generalize InvQ _ _ _ w0 a0 (lq.setIfInBounds 1 true) = K at hK ⊢
      clear hJ2 hS z1 z2 z3 z4 z6 z7
      go_simp
      exact hK _ _ z5 (fun _ _ h => h) rfl
    | 2, ho =>
      cases ho
      refine wpOp_of rfl rfl ?_
      have f0 : (aq.tmps.getD 16 undef) = .slice (some ⟨A, oa, none⟩) n ca := z6 0 16 (hall { on := 0, ground := Ground.data } (by simp) rfl) rfl
      have f1 : (aq.tmps.getD 17 undef) = .int .i64 (c : Int) := z6 1 17 (hall { on := 1, ground := Ground.data } (by simp) rfl) rfl
      have hcI : (c : Int) < n := by omega
      have hcM : (c : Int) < m := by omega
      have hnI : (n : Int) ≤ 1048576 := by omega
      have hK := fun (v : Value) (W2 : World) hW hT hv => hJ2.put hS 2 18 rfl (by omega) (W' := W2) hW hT v hv
      clear ho hall hl hQ
      generalize InvQ _ _ _ w0 a0 (lq.setIfInBounds 2 true) = K at hK ⊢
      clear hJ2 hS z1 z2 z3 z4 z6 z7
      go_simp
      exact hK _ _ z5 (fun _ _ h => h) rfl
    | 3, ho =>
      cases ho
      refine wpOp_of rfl rfl ?_
      have f2 : (aq.tmps.getD 18 undef) = .pointer (some ⟨A, oa + c, none⟩) := z6 2 18 (hall { on := 2, ground := Ground.data } (by simp) rfl) rfl
      have hK := fun (v : Value) (W2 : World) hW hT hv => hJ2.put hS 3 19 rfl (by omega) (W' := W2) hW hT v hv
      clear ho hall hl hQ
      generalize InvQ _ _ _ w0 a0 (lq.setIfInBounds 3 true) = K at hK ⊢
      clear hJ2 hS z1 z2 z3 z4 z6 z7
      go_simp
      exact hK _ _ z5 (fun _ _ h => h) rfl
    | 4, ho =>
      cases ho
      refine wpOp_of rfl rfl ?_
      have hK := fun (v : Value) (W2 : World) hW hT hv => hJ2.put hS 4 20 rfl (by omega) (W' := W2) hW hT v hv
      clear ho hall hl hQ
      generalize InvQ _ _ _ w0 a0 (lq.setIfInBounds 4 true) = K at hK ⊢
      clear hJ2 hS z1 z2 z3 z4 z6 z7
      go_simp
      exact hK _ _ z5 (fun _ _ h => h) rfl
    | 5, ho =>
      cases ho
      refine wpOp_of rfl rfl ?_
      have hK := fun (v : Value) (W2 : World) hW hT hv => hJ2.put hS 5 21 rfl (by omega) (W' := W2) hW hT v hv
      clear ho hall hl hQ
      generalize InvQ _ _ _ w0 a0 (lq.setIfInBounds 5 true) = K at hK ⊢
      clear hJ2 hS z1 z2 z3 z4 z6 z7
      go_simp
      exact hK _ _ z5 (fun _ _ h => h) rfl
    | 6, ho =>
      cases ho
      refine wpOp_of rfl rfl ?_
      have f4 : (aq.tmps.getD 20 undef) = .slice (some ⟨B2, ob, none⟩) m cb := z6 4 20 (hall { on := 4, ground := Ground.data } (by simp) rfl) rfl
      have f5 : (aq.tmps.getD 21 undef) = .int .i64 (c : Int) := z6 5 21 (hall { on := 5, ground := Ground.data } (by simp) rfl) rfl
      have hcI : (c : Int) < n := by omega
      have hcM : (c : Int) < m := by omega
      have hnI : (n : Int) ≤ 1048576 := by omega
      have hK := fun (v : Value) (W2 : World) hW hT hv => hJ2.put hS 6 22 rfl (by omega) (W' := W2) hW hT v hv
      clear ho hall hl hQ
      generalize InvQ _ _ _ w0 a0 (lq.setIfInBounds 6 true) = K at hK ⊢
      clear hJ2 hS z1 z2 z3 z4 z6 z7
      go_simp
      exact hK _ _ z5 (fun _ _ h => h) rfl
    | 7, ho =>
      cases ho
      refine wpOp_of rfl rfl ?_
      have f6 : (aq.tmps.getD 22 undef) = .pointer (some ⟨B2, ob + c, none⟩) := z6 6 22 (hall { on := 6, ground := Ground.data } (by simp) rfl) rfl
      have hK := fun (v : Value) (W2 : World) hW hT hv => hJ2.put hS 7 23 rfl (by omega) (W' := W2) hW hT v hv
      clear ho hall hl hQ
      generalize InvQ _ _ _ w0 a0 (lq.setIfInBounds 7 true) = K at hK ⊢
      clear hJ2 hS z1 z2 z3 z4 z6 z7
      go_simp
      exact hK _ _ z5 (fun _ _ h => h) rfl
    | 8, ho =>
      cases ho
      refine wpOp_of rfl rfl ?_
      have f3 : (aq.tmps.getD 19 undef) = .int .i64 x := z6 3 19 (hall { on := 3, ground := Ground.data } (by simp) rfl) rfl
      have f7 : (aq.tmps.getD 23 undef) = .int .i64 y := z6 7 23 (hall { on := 7, ground := Ground.data } (by simp) rfl) rfl
      have hK := fun (v : Value) (W2 : World) hW hT hv => hJ2.put hS 8 24 rfl (by omega) (W' := W2) hW hT v hv
      clear ho hall hl hQ
      generalize InvQ _ _ _ w0 a0 (lq.setIfInBounds 8 true) = K at hK ⊢
      clear hJ2 hS z1 z2 z3 z4 z6 z7
      go_simp
      exact hK _ _ z5 (fun _ _ h => h) (by show Value.bool _ = Value.bool _; congr 1; rw [Bool.eq_iff_iff]; simp)
    | iq + 9, ho => simp at ho
  · intro lq aq W hJ hr
    obtain ⟨z1, z2, z3, z4, z5, z6, z7⟩ := hJ
    have hl := listed_of hr [0, 1, 2, 3, 4, 5, 6, 7, 8] [] (by simp) (by kernel_rfl) (by rw [z1]; decide)
    exact hQ aq W z2 z3 (fun e he => z4 e (by simpa using he)) (z6 8 24 (hl 8 (by simp)) rfl) z5
set_option maxRecDepth 100000 in
set_option maxHeartbeats 4000000 in
theorem equalNo_any (ao bo : Option Addr) (n ca m cb : Nat) (e f : Nat → Int) (hn : n ≤ 1048576) (w : World) (hA : NoIn w ao n e) (hC : NoIn w bo m f) : Calls Try.prog 69 #[.slice ao n ca, .slice bo m cb] w (VP (.bool (decide (n = m ∧ ∀ i, i < n → e i = f i))) w) := by
  obtain ⟨R, hR⟩ : ∃ R, decide (n = m ∧ ∀ i, i < n → e i = f i) = R := ⟨_, rfl⟩
  rw [hR]
  have HR : Hid (decide (n = m ∧ ∀ i, i < n → e i = f i) = R) := hR
  clear hR
  by_cases hnm : n = m
  · subst hnm
    have HA : Hid (NoIn w ao n e) := hA
    have HC : Hid (NoIn w bo n f) := hC
    clear hA hC
    have hnI : (n : Int) ≤ 1048576 := by omega
    go_enter Try.func69, Try.ntmps69
    go_wp2_with fail
    go_loopw [13] (fun i wr => ∃ c : Nat, c ≤ n ∧ i = .int .i64 c ∧ (∀ j, j < c → e j = f j) ∧ Below w.heap.size w wr) (fun i _ => n - (intOf i).toNat)
    case atStart => exact ⟨0, by omega, rfl, fun j hj => absurd hj (by omega), Below.refl _ _⟩
    case round =>
      obtain ⟨c, hc, rfl, hall, HB⟩ := hrel
      have HP : Hid (∀ j, j < c → e j = f j) := hall
      clear hall
      by_cases hcn : c < n
      · have hcI : (c : Int) < n := by omega
        obtain ⟨A, oa, rfl, hA, q0⟩ := HA.out.step HB c hcn
        obtain ⟨A2, ob, rfl, hA2, q1⟩ := HC.out.step HB c hcn
        go_upto_region 6 with fail
        refine qdE (A := A) (oa := oa) (n := n) (ca := ca) (B2 := A2) (ob := ob) (m := n) (cb := cb) (c := c) (x := e c) (y := f c) hcn hcn hn rfl rfl rfl q0 hA q1 hA2 rfl ?_
        rintro ⟨tm, df⟩ Wz hz hdf hoff hx hBz
        simp only at hz hdf hoff hx
        change tm.getD 24 undef = .bool (decide (¬ (e c = f c))) at hx
        subst hdf
        have htm := tmps_fold [16, 17, 18, 19, 20, 21, 22, 23, 24] tm _ hz hoff
        simp only [List.foldl, List.setIfInBounds_toArray, List.set_cons_zero, List.set_cons_succ, hx] at htm
        clear hz hoff
        generalize tm.getD 16 undef = u0, tm.getD 17 undef = u1, tm.getD 18 undef = u2, tm.getD 19 undef = u3, tm.getD 20 undef = u4, tm.getD 21 undef = u5, tm.getD 22 undef = u6, tm.getD 23 undef = u7 at htm
        clear hx
        subst htm
        replace HB := HB.trans (hBz.mono HB.size)
        clear hBz q0 q1
        by_cases hef : e c = f c
        · have HQ : Hid (e c = f c) := hef
          rw [decide_eq_false (fun h => h hef)]
          clear hef
          go_wp2
          go_roundw
          case rel => exact ⟨c + 1, by omega, by go_num, fun j hj => by
            rcases Nat.lt_or_ge j c with h | h
            · exact HP.out j h
            · obtain rfl : j = c := by omega
              exact HQ.out, HB⟩
          case measure => simp [intOf]; omega
        · have HO : Hid (R = false) := HR.out.symm.trans (decide_eq_false (fun h => hef (h.2 c hcn)))
          rw [decide_eq_true hef]
          clear hef HP HA HC HR
          go_wp2
          go_ret
          exact ⟨by rw [HO.out]; rfl, HB⟩
      · obtain rfl : c = n := by omega
        have HO : Hid (R = true) := HR.out.symm.trans (decide_eq_true ⟨trivial, HP.out⟩)
        clear HP HA HC HR
        go_wp2
        go_ret
        exact ⟨by rw [HO.out]; rfl, HB⟩
  · have HO : Hid (R = false) := HR.out.symm.trans (decide_eq_false (fun h => hnm h.1))
    have hnm2 : ¬ ((n : Int) = (m : Int)) := by omega
    clear hA hC hnm HR
    go_enter Try.func69, Try.ntmps69
    go_wp2
    go_ret
    exact ⟨by rw [HO.out]; rfl, Below.refl _ _⟩
theorem itCs_at (Q : QD) : ∀ (l : List Nat) (j i k : Nat), l[j]? = some i → k < 5 → (itCs Q l)[j * 5 + k]? = (it5 Q i)[k]?
  | [], j, i, k, h, _ => by simp at h
  | a :: l, 0, i, k, h, hk => by
    simp at h
    subst h
    show ((it5 Q a) ++ itCs Q l)[0 * 5 + k]? = _
    rw [Nat.zero_mul, Nat.zero_add, List.getElem?_append_left (by show k < 5; exact hk)]
  | a :: l, j + 1, i, k, h, hk => by
    have h' : l[j]? = some i := by simpa using h
    show ((it5 Q a) ++ itCs Q l)[(j + 1) * 5 + k]? = _
    rw [List.getElem?_append_right (by show 5 ≤ _; omega), show (j + 1) * 5 + k - (it5 Q a).length = j * 5 + k by show (j + 1) * 5 + k - 5 = _; omega]
    exact itCs_at Q l j i k h' hk
theorem ItIn.of {Q : QD} {w : World} {base : Nat} {v : Value} {l : List Nat} (h : w.ownsRow base 75 5 v l.length (itCs Q l)) : ∃ ao cap, v = .slice ao l.length cap ∧ ItIn Q w ao l := by
  rcases h.2 with ⟨h1, h2⟩ | ⟨g, cap, cur, h1, h2, h3, h4⟩
  · refine ⟨none, 0, by rw [h1, h2], fun j i hj => ?_⟩
    rw [List.length_eq_zero_iff.1 h2] at hj
    simp at hj
  · refine ⟨some ⟨g, 0, none⟩, cap, h1, fun j i hj => ?_⟩
    have cl : ∀ k v, k < 5 → (it5 Q i)[k]? = some v → w.cell? ⟨g, 0 + j * 5 + k, none⟩ = some v := fun k v hk hv => by
      have h5 := h.cells (g := g) (by rw [h1]; rfl) (j * 5 + k) v (by rw [itCs_at Q l j i k hj hk]; exact hv)
      rwa [Addr.add_lit, ← Nat.add_assoc] at h5
    exact ⟨g, 0, rfl, (Array.getElem?_eq_some_iff.1 h3).1, cl 0 _ (by decide) rfl, cl 1 _ (by decide) rfl, cl 2 _ (by decide) rfl, cl 3 _ (by decide) rfl, cl 4 _ (by decide) rfl⟩
def idV (Q : QD) (l : List Nat) : List Value := l.map fun i => Value.int .i64 (Q.I i)
theorem one_cellQ (x : Int) : ∀ u ∈ [Value.int .i64 x], u.oneCell' = true := by
  intro u hu
  simp only [List.mem_singleton] at hu
  subst hu
  rfl
theorem one_newQ (w : World) (x : Int) (t : TypeId) : ∀ j v, [Value.int .i64 x][j]? = some v → (w.alloc (.cells #[.int .i64 x] t)).cell? ((⟨w.heap.size, 0, none⟩ : Addr).add j) = some v := by
  intro j v hj
  rw [Addr.add_lit, Nat.zero_add]
  exact (Blk.new w [.int .i64 x] t rfl).c j hj
theorem info_noQ : ∃ i0, Try.prog.info? 2 = some i0 ∧ i0.zero = some (.int .i64 0) ∧ i0.size = 1 ∧ i0.bytes = 8 := by
  obtain ⟨i, hi, hz⟩ := Option.map_eq_some_iff.1 Try.infoNo
  simp only [Prod.mk.injEq] at hz
  exact ⟨i, hi, hz.1, hz.2.1, hz.2.2⟩
set_option maxRecDepth 100000 in
set_option maxHeartbeats 4000000 in
theorem idsOf_any (Q : QD) (ao : Option Addr) (cap : Nat) (l : List Nat) (hl : l.length ≤ 1048576) (w : World) (hS : ItIn Q w ao l) : Calls Try.prog 87 #[.slice ao l.length cap] w (fun r w' => ∃ v, r = .returned v ∧ w'.ownsRow w.heap.size 2 1 v l.length (idV Q l) ∧ Below w.heap.size w w') := by
  obtain ⟨i0, hi, hz0, hz1, hz2⟩ := info_noQ
  have HS : Hid (ItIn Q w ao l) := hS
  clear hS
  obtain ⟨n, hn⟩ : ∃ n, l.length = n := ⟨_, rfl⟩
  rw [hn] at hl ⊢
  have hnI : (n : Int) ≤ 1048576 := by omega
  go_enter Try.func87, Try.ntmps87
  go_wp2_with fail
  go_loopw [3, 8] (fun o i wr => ∃ c : Nat, c ≤ n ∧ i = .int .i64 c ∧ wr.ownsRow w.heap.size 2 1 o c (idV Q (l.take c)) ∧ Below w.heap.size w wr) (fun _ i _ => n - (intOf i).toNat)
  case atStart => exact ⟨0, by omega, rfl, World.ownsRow_nil _ _ _ _, Below.refl _ _⟩
  case round =>
    obtain ⟨c, hc, rfl, HO, HB⟩ := hrel
    by_cases hcn : c < n
    · obtain ⟨i, hi2⟩ : ∃ i, l[c]? = some i := ⟨_, List.getElem?_eq_getElem (by omega)⟩
      obtain ⟨A, off, rfl, hA, q0, q1, q2, q3, q4⟩ := HS.out.step HB c i hi2
      have hcI : (c : Int) < n := by omega
      have hB1 := (Below.refl wr.heap.size wr).alloc (Nat.le_refl _) (.cells #[.int .i64 (Q.I i), .int .i64 (Q.S i).1, .int .i64 (Q.S i).2.1, .int .i64 (Q.S i).2.2.1, .int .i64 (Q.S i).2.2.2] 75)
      have B1 : Blk (wr.alloc (.cells #[.int .i64 (Q.I i), .int .i64 (Q.S i).1, .int .i64 (Q.S i).2.1, .int .i64 (Q.S i).2.2.1, .int .i64 (Q.S i).2.2.2] 75)) wr.heap.size [.int .i64 (Q.I i), .int .i64 (Q.S i).1, .int .i64 (Q.S i).2.1, .int .i64 (Q.S i).2.2.1, .int .i64 (Q.S i).2.2.2] := Blk.new wr [.int .i64 (Q.I i), .int .i64 (Q.S i).1, .int .i64 (Q.S i).2.1, .int .i64 (Q.S i).2.2.1, .int .i64 (Q.S i).2.2.2] 75 rfl
      have HFM : idV Q (l.take (c + 1)) = idV Q (l.take c) ++ [.int .i64 (Q.I i)] := by unfold idV; rw [List.take_add_one, hi2]; simp
      go_upto_region 5 with fail
      replace HO := ownA_step HO hB1
      replace HB := HB.trans (hB1.mono HB.size)
      clear hB1 q0 q1 q2 q3 q4
      generalize (wr.alloc (.cells #[.int .i64 (Q.I i), .int .i64 (Q.S i).1, .int .i64 (Q.S i).2.1, .int .i64 (Q.S i).2.2.1, .int .i64 (Q.S i).2.2.2] 75)) = W5 at *
      have m0 := B1.c 0 rfl
      go_wp2_with (at_builtin; refine wpList_append_own _ rfl _ _ 39 rfl w.heap.size 2 i0 (.int .i64 0) 1 8 Try.underlying39 hi hz0 hz1 hz2 rfl (by decide) _ _ _ rfl (ownA_step HO ((Below.refl _ _).alloc (Nat.le_refl _) _)) ⟨W5.heap.size, 0, none⟩ 1 1 [.int .i64 (Q.I i)] rfl rfl (one_newQ _ _ _) (one_cellQ _) (by unfold maxLen; omega) (by omega) (by have := HB.size; simp; omega) ?_)
      intro v1 w2 hown1 hgrow1 _
      have HBN : Below w.heap.size w w2 := (HB.alloc HB.size _).grown hgrow1 (by have := HB.size; simp; omega) (fun k hk => (HO.lt k hk).1)
      rw [← HFM] at hown1
      clear HO HB hgrow1 m0 B1
      go_wp2
      go_roundw
      case rel => exact ⟨c + 1, by omega, by go_num, hown1, HBN⟩
      case measure => simp [intOf]; omega
    · obtain rfl : c = n := by omega
      rw [List.take_of_length_le (by omega)] at HO
      go_wp2
      go_ret
      exact ⟨_, rfl, HO, HB⟩
theorem NoIn.ofQ {Q : QD} {w : World} {base : Nat} {v : Value} {l : List Nat} (h : w.ownsRow base 2 1 v l.length (idV Q l)) : ∃ ao cap, v = .slice ao l.length cap ∧ NoIn w ao l.length (fun j => (idL Q l).getD j 0) := by
  rcases h.2 with ⟨h1, h2⟩ | ⟨g, cap, cur, h1, h2, h3, h4⟩
  · exact ⟨none, 0, by rw [h1, h2], fun j hj => absurd hj (by omega)⟩
  · refine ⟨some ⟨g, 0, none⟩, cap, h1, fun j hj => ⟨g, 0, rfl, (Array.getElem?_eq_some_iff.1 h3).1, ?_⟩⟩
    have h5 := h.cells (g := g) (by rw [h1]; rfl) j (.int .i64 ((idL Q l).getD j 0)) (by simp [idV, idL, hj])
    rwa [Addr.add_lit] at h5
theorem leaf_eq (Q : QD) (at_ : Nat) (x y s : Int) : decide (Q.L at_ = (flQ Q (List.range Q.m) x y s).length ∧ ∀ i, i < Q.L at_ → Q.E at_ i = (idL Q (flQ Q (List.range Q.m) x y s)).getD i 0) = leafB Q at_ x y s := by
  unfold leafB
  refine decide_eq_decide.2 ⟨fun h => ?_, fun h => ?_⟩
  · apply List.ext_getElem?
    intro k
    by_cases hk : k < Q.L at_
    · have := h.2 k hk
      have hk2 : k < (flQ Q (List.range Q.m) x y s).length := by omega
      simp [blL, idL, hk, hk2] at this ⊢
      exact this
    · rw [List.getElem?_eq_none (by simp [blL]; omega), List.getElem?_eq_none (by simp [idL]; omega)]
  · have hl : Q.L at_ = (flQ Q (List.range Q.m) x y s).length := by have := congrArg List.length h; simpa [blL, idL] using this
    refine ⟨hl, fun i hi => ?_⟩
    have := congrArg (fun t => t.getD i 0) h
    simpa [blL, hi] using this
end Go.Proofs.Ytaagmdhbfbikfaa

/- A leaf filled; the four kids of a block. -/
namespace Go.Proofs.Ytaagmdhbfbikfaa
open Go.RowKit
theorem Blk.grown {W W2 : World} {g : Nat} {vs : List Value} {row : Option Nat} (h : Blk W g vs) (hg : W.grownBy W2 row) (hne : some g ≠ row) : Blk W2 g vs :=
  ⟨Nat.lt_of_lt_of_le h.lt hg.size, fun i _ hi => ⟨(World.cell?_of_block (w := W) (a := ⟨g, i, none⟩) (hg.block g h.lt hne)).trans (h.c i hi), (World.frozen?_of_block (w := W) (a := ⟨g, i, none⟩) (hg.block g h.lt hne)).trans (h.f i hi)⟩⟩
/-- Only block g, and what is new, may have turned. -/
theorem grown_set {w w' : World} (hB : Below w.heap.size w w') {g : Nat} (j : Nat) (u : Value) : w.grownBy (w'.setCell ⟨g, j, none⟩ u) (some g) :=
  ⟨hB.os, hB.tape, hB.output, Nat.le_trans hB.size (by simp [World.setCell]), fun k hk hne => by
    rw [heap_setCell_other _ _ _ _ (fun e => hne (congrArg some e))]
    exact hB.block k hk⟩
/-- A row of the numbers of the items of a list. -/
def IdR (Q : QD) (b : Nat) (w : World) (v : Value) (l : List Nat) : Prop := ∃ ao cap, v = .slice ao l.length cap ∧ NoIn w ao l.length (fun j => (idL Q l).getD j 0) ∧ (ao = none → cap = 0) ∧ ∀ A o sp, ao = some ⟨A, o, sp⟩ → b ≤ A ∧ A < w.heap.size
set_option maxRecDepth 100000 in
set_option maxHeartbeats 4000000 in
theorem fill_any (Q : QD) (g : Nat) (x y s lv : Int) (ids kids : Value) (ao : Option Addr) (cap : Nat) (l : List Nat) (hq : Sq x y s) (h6 : Its6 Q l) (hl : l.length ≤ 1048576) (w : World) (B0 : BkB w g x y s lv ids kids) (hS : ItIn Q w ao l) : Calls Try.prog 68 #[.pointer (some ⟨g, 0, none⟩), .slice ao l.length cap] w (fun r w' => r = .returned (.tuple #[]) ∧ ∃ v, BkB w' g x y s lv v kids ∧ IdR Q w.heap.size w' v (flQ Q l x y s) ∧ w.grownBy w' (some g)) := by
  have MT := meeting_any Q g x y s lv ids kids ao cap l hq h6 hl w B0 hS
  have hfl : (flQ Q l x y s).length ≤ 1048576 := Nat.le_trans (List.length_filter_le _ _) hl
  have hg := B0.lt
  go_enter Try.func68, Try.ntmps68
  go_wp2_with fail
  refine MT.mono ?_
  rintro r w1 ⟨v, rfl, HO, hB1⟩
  replace B0 := B0.step hB1
  clear MT hS
  obtain ⟨ao1, c1, rfl, hI⟩ := ItIn.of HO
  clear HO
  have ID := idsOf_any Q ao1 c1 _ hfl w1 hI
  go_wp2_with fail
  refine ID.mono ?_
  rintro r w2 ⟨v2, rfl, HO2, hB2⟩
  replace B0 := B0.step hB2
  have HB := hB1.trans (hB2.mono hB1.size)
  have hs1 := hB1.size
  clear ID hI hB1 hB2
  obtain ⟨ao2, c2, rfl, hN⟩ := NoIn.ofQ HO2
  have y4 := B0.c 4 rfl; have f4 := B0.f 4 rfl
  have BF := B0.setI 4 (by simp) (.slice ao2 (flQ Q l x y s).length c2)
  have GF := grown_set HB (g := g) 4 (.slice ao2 (flQ Q l x y s).length c2)
  have HNF : NoIn (w2.setCell ⟨g, 4, none⟩ (.slice ao2 (flQ Q l x y s).length c2)) ao2 (flQ Q l x y s).length (fun j => (idL Q (flQ Q l x y s)).getD j 0) := fun j hj => by
    obtain ⟨A, off, e, hA, hc⟩ := hN j hj
    refine ⟨A, off, e, Nat.lt_of_lt_of_le hA (by simp [World.setCell]), ?_⟩
    have hne : A ≠ g := by
      intro e2
      subst e2
      subst e
      have h3 := (HO2.lt A rfl).1
      have h4 := HB.size
      have h5 : w.heap.size ≤ w1.heap.size := hs1
      omega
    rw [← hc]
    exact World.cell?_of_block (w := w2) (a := ⟨A, off + j, none⟩) (heap_setCell_other _ _ _ _ hne)
  have hz0 : ao2 = none → c2 = 0 := fun e => by
    subst e
    rcases HO2.2 with ⟨h1, _⟩ | ⟨g2, cap2, cur, h1, _⟩
    · exact (Value.slice.inj h1).2.2
    · cases h1
  have hlt2 : ∀ A o sp, ao2 = some ⟨A, o, sp⟩ → w.heap.size ≤ A ∧ A < (w2.setCell ⟨g, 4, none⟩ (.slice ao2 (flQ Q l x y s).length c2)).heap.size := fun A o sp e => by
    have h3 := HO2.lt A (by rw [e]; rfl)
    have h5 : w.heap.size ≤ w1.heap.size := hs1
    have h6 : (w2.setCell ⟨g, 4, none⟩ (.slice ao2 (flQ Q l x y s).length c2)).heap.size = w2.heap.size := by simp [World.setCell]
    omega
  clear HO2 hN HB B0
  go_wp2
  go_end0
  exact ⟨rfl, _, BF, ⟨_, _, rfl, HNF, hz0, hlt2⟩, GF⟩
end Go.Proofs.Ytaagmdhbfbikfaa
