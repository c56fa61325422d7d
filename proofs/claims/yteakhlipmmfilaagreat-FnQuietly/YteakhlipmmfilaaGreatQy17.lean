/- Part 17 of the walks that the proof leans on. -/
import Derived.Test.YteakhlipmmfilaaGreatQy16
import Derived.Test.YteakhlipmmfilaaGreatQy8
import Derived.Test.YteakhlipmmfilaaGreatQy4
import Derived.Maps.AppendAt
import Derived.Test.YteakhlipmmfilaaGreatQy10
import Derived.Test.YteakhlipmmfilaaGreatQy15
import Derived.Test.YteakhlipmmfilaaGreatRows
import Derived.ProofKit
import Derived.Lib.SmallJoins
namespace Go.Proofs.YteakhlipmmfilaaGreat
open Go.RowKit
set_option maxRecDepth 100000 in
set_option maxHeartbeats 8000000 in
theorem l6SegLess_any (a b c d p q r s : Int) (w : World) : Calls Tryz.prog 30 #[Sg a b c d, Sg p q r s] w (BoolP (sgLt (a, b, c, d) (p, q, r, s)) w) := by
 obtain ⟨z, hz⟩ : ∃ z, sgLt (a, b, c, d) (p, q, r, s) = z := ⟨_, rfl⟩
 have HZ : Hid (sgLt (a, b, c, d) (p, q, r, s) = z) := hz
 rw [hz]
 clear hz
 have T0 : ArgsB w ((w.alloc (.cells #[.int .i64 a, .int .i64 b, .int .i64 c, .int .i64 d] 53)).alloc (.cells #[.int .i64 p, .int .i64 q, .int .i64 r, .int .i64 s] 53)) [[.int .i64 a, .int .i64 b, .int .i64 c, .int .i64 d], [.int .i64 p, .int .i64 q, .int .i64 r, .int .i64 s]] := ⟨((Below.refl _ _).alloc (Nat.le_refl _) _).alloc (by simp) _, fun j vs hj => by
   match j, hj with
   | 0, hj => cases hj; exact (Blk.new w [.int .i64 a, .int .i64 b, .int .i64 c, .int .i64 d] 53 rfl).alloc _
   | 1, hj => cases hj; have h9 := Blk.new (w.alloc (.cells #[.int .i64 a, .int .i64 b, .int .i64 c, .int .i64 d] 53)) [.int .i64 p, .int .i64 q, .int .i64 r, .int .i64 s] 53 rfl; rw [World.size_alloc] at h9; exact h9
   | j + 2, hj => simp at hj⟩
 have E0 := fun w => eqSp a b p q w
 obtain ⟨b0, hb0⟩ : ∃ b0, (decide (a = p) && decide (b = q)) = b0 := ⟨_, rfl⟩
 have HB0 : Hid ((decide (a = p) && decide (b = q)) = b0) := hb0
 rw [hb0] at E0
 obtain ⟨c1, hc1⟩ : ∃ c1, lessI a b p q = c1 := ⟨_, rfl⟩
 obtain ⟨c2, hc2⟩ : ∃ c2, lessI c d r s = c2 := ⟨_, rfl⟩
 have HC : Hid (lessI a b p q = c1 ∧ lessI c d r s = c2) := ⟨hc1, hc2⟩
 have L1 := fun w => l4Less_any a b p q c1 hc1 w
 have L2 := fun w => l4Less_any c d r s c2 hc2 w
 have KEY : Hid (z = (c1 || (b0 && c2))) := by
   have h1 := HZ.out
   have h2 := HB0.out
   have h3 := HC.out.1
   have h4 := HC.out.2
   rw [← h1, ← h2, ← h3, ← h4]
   unfold sgLt lessI
   simp only
   rw [← Bool.decide_and, ← Bool.decide_and, ← Bool.decide_or]
   exact rfl
 clear hb0 hc1 hc2
 go_enter Tryz.func30, Tryz.ntmps30
 go_upto_region 1 with fail
 generalize ((w.alloc (.cells #[.int .i64 a, .int .i64 b, .int .i64 c, .int .i64 d] 53)).alloc (.cells #[.int .i64 p, .int .i64 q, .int .i64 r, .int .i64 s] 53)) = W1 at *
 have x0 := (T0.b 0 rfl).c 0 rfl; have x1 := (T0.b 0 rfl).c 1 rfl; have x2 := (T0.b 0 rfl).c 2 rfl; have x3 := (T0.b 0 rfl).c 3 rfl
 have y0 := (T0.b 1 rfl).c 0 rfl; have y1 := (T0.b 1 rfl).c 1 rfl; have y2 := (T0.b 1 rfl).c 2 rfl; have y3 := (T0.b 1 rfl).c 3 rfl
 simp only [Nat.add_zero] at x0 x1 x2 x3
 go_wp2_with fail
 refine (L1 _).mono ?_
 rintro e w1 ⟨rfl, hB⟩
 replace T0 := T0.step hB
 clear hB x0 x1 x2 x3 y0 y1 y2 y3 L1
 have x0 := (T0.b 0 rfl).c 0 rfl; have x1 := (T0.b 0 rfl).c 1 rfl; have x2 := (T0.b 0 rfl).c 2 rfl; have x3 := (T0.b 0 rfl).c 3 rfl
 have y0 := (T0.b 1 rfl).c 0 rfl; have y1 := (T0.b 1 rfl).c 1 rfl; have y2 := (T0.b 1 rfl).c 2 rfl; have y3 := (T0.b 1 rfl).c 3 rfl
 simp only [Nat.add_zero] at x0 x1 x2 x3
 cases c1 with
 | true =>
   have HBF := T0.below
   clear T0 L2 E0
   go_wp2
   go_ret
   exact ⟨by rw [KEY.out]; rfl, HBF⟩
 | false =>
   cases b0 with
   | false =>
     have HBF := T0.below
     clear T0 L2
     go_wp2
     go_ret
     exact ⟨by rw [KEY.out]; rfl, HBF⟩
   | true =>
     go_wp2_with fail
     refine (L2 _).mono ?_
     rintro e w2 ⟨rfl, hB⟩
     have HBF := (T0.step hB).below
     clear T0 L2 hB x0 x1 x2 x3 y0 y1 y2 y3 E0
     go_wp2
     go_ret
     exact ⟨by rw [KEY.out]; rfl, HBF⟩
theorem ins_cut (s : Sd) : ∀ M : List Sd, ∃ j, j ≤ M.length ∧ insS M s = M.take j ++ s :: M.drop j ∧ ∀ c t, M[c]? = some t → c ≤ j → sgLt t s = decide (c < j)
 | [] => ⟨0, Nat.le_refl _, rfl, fun c t h _ => by simp at h⟩
 | a :: r => by
   cases hc : sgLt a s with
   | true =>
     obtain ⟨j, h1, h2, h3⟩ := ins_cut s r
     refine ⟨j + 1, by simpa using h1, ?_, fun c t h hcj => ?_⟩
     · unfold insS at *
       rw [List.takeWhile_cons, List.dropWhile_cons, hc]
       simp only [if_true, List.cons_append, List.take_succ_cons, List.drop_succ_cons]
       rw [h2]
     · match c, h with
       | 0, h =>
         obtain rfl := Option.some.inj h
         rw [hc]
         simp
       | c + 1, h =>
         rw [h3 c t (by simpa using h) (by omega)]
         simp
   | false =>
     refine ⟨0, Nat.zero_le _, ?_, fun c t h hcj => ?_⟩
     · unfold insS
       rw [List.takeWhile_cons, List.dropWhile_cons, hc]
       rfl
     · obtain rfl : c = 0 := by omega
       obtain rfl := Option.some.inj h
       rw [hc]
       rfl
def upS (n : Nat) (p : Ps) (d : Nat) : List Sd := (List.range d).map (sdA n p)
theorem upS_succ (n : Nat) (p : Ps) (d : Nat) : upS n p (d + 1) = upS n p d ++ [sdA n p d] := by
 unfold upS
 rw [List.range_succ, List.map_append]
 rfl
theorem upS_all (n : Nat) (p : Ps) : (List.finRange n).map (fun x => sdA n p x.1) = upS n p n := by
 unfold upS
 refine List.ext_getElem (by simp) fun i h1 h2 => ?_
 simp
def OwL (b : Nat) (W : World) (M : List Sd) (o : Value) : Prop := ∃ g gc, o = .slice (some ⟨g, 0, none⟩) M.length gc ∧ b ≤ g ∧ g < W.heap.size ∧ M.length ≤ gc ∧ gc ≤ 9223372036854775807 ∧ W.ownsRow b 53 4 o M.length (M.flatMap sdE)
theorem OwL.step {b : Nat} {W W' : World} {M : List Sd} {o : Value} (h : OwL b W M o) (hB : Below W.heap.size W W') : OwL b W' M o := by
 obtain ⟨g, gc, e, h1, h2, h3, h4, h5⟩ := h
 exact ⟨g, gc, e, h1, Nat.lt_of_lt_of_le h2 hB.size, h3, h4, own_stepG h5 hB⟩
theorem OwL.cell {b g gc : Nat} {W : World} {M : List Sd} {n : Nat} (h : W.ownsRow b 53 4 (.slice (some ⟨g, 0, none⟩) n gc) M.length (M.flatMap sdE)) {c : Nat} {t : Sd} (hc : M[c]? = some t) : W.cell? ⟨g, c * 4, none⟩ = some (.int .i64 t.1) ∧ W.cell? ⟨g, c * 4 + 1, none⟩ = some (.int .i64 t.2.1) ∧ W.cell? ⟨g, c * 4 + 2, none⟩ = some (.int .i64 t.2.2.1) ∧ W.cell? ⟨g, c * 4 + 3, none⟩ = some (.int .i64 t.2.2.2) := by
 have key : ∀ j u, j < 4 → (sdE t)[j]? = some u → W.cell? ⟨g, c * 4 + j, none⟩ = some u := fun j u hj hu => by
   have h9 := h.cells rfl (c * 4 + j) u (by rw [flat_at _ _ _ hj, hc]; exact hu)
   rw [Addr.add_lit, Nat.zero_add] at h9
   exact h9
 exact ⟨key 0 _ (by omega) rfl, key 1 _ (by omega) rfl, key 2 _ (by omega) rfl, key 3 _ (by omega) rfl⟩
theorem flat_one (M : List Sd) : ∀ u ∈ M.flatMap sdE, u.oneCell' = true := by
 intro u hu
 obtain ⟨s, _, h⟩ := List.mem_flatMap.1 hu
 exact one4 s u h
theorem flat_take (M : List Sd) (j : Nat) : (M.flatMap sdE).take (j * 4) = (M.take j).flatMap sdE := by
 induction M generalizing j with
 | nil => simp
 | cons a r ih =>
   cases j with
   | zero => simp
   | succ j =>
     rw [List.flatMap_cons, List.take_succ_cons, List.flatMap_cons, ← ih, List.take_append, sdE_len, List.take_of_length_le (by rw [sdE_len]; omega), show (j + 1) * 4 - 4 = j * 4 by omega]
theorem flat_takeC {M : List Sd} {j jj : Nat} {u : Value} (h : ((M.take j).flatMap sdE)[jj]? = some u) : (M.flatMap sdE)[jj]? = some u := by
 rw [← flat_take] at h
 rw [List.getElem?_take] at h
 split at h
 · exact h
 · cases h
theorem flat_drop (M : List Sd) (j : Nat) : (M.flatMap sdE).drop (j * 4) = (M.drop j).flatMap sdE := by
 induction M generalizing j with
 | nil => simp
 | cons a r ih =>
   cases j with
   | zero => simp
   | succ j =>
     rw [List.flatMap_cons, List.drop_succ_cons, ← ih, List.drop_append, sdE_len, List.drop_of_length_le (by rw [sdE_len]; omega), show (j + 1) * 4 - 4 = j * 4 by omega, List.nil_append]
def VlgS (n cap A c : Nat) (x1 x2 x3 x4 y1 y2 y3 y4 : Int) (_B : Nat) : Nat → Value → World → Prop
 | 0, v, _ => v = .int .i64 (c : Int)
 | 1, v, _ => v = .slice (some ⟨A, 0, none⟩) n cap
 | 2, v, _ => v = .int .i64 (n : Int)
 | 3, v, _ => v = .bool true
 | 4, v, _ => v = .bool true
 | 5, v, _ => v = .slice (some ⟨A, 0, none⟩) n cap
 | 6, v, _ => v = .int .i64 (c : Int)
 | 7, v, _ => v = .pointer (some ⟨A, c * 4, none⟩)
 | 8, v, _ => v = .agg #[.int .i64 x1, .int .i64 x2, .int .i64 x3, .int .i64 x4]
 | 9, v, _ => v = .agg #[.int .i64 y1, .int .i64 y2, .int .i64 y3, .int .i64 y4]
 | 10, v, _ => v = .bool (sgLt (x1, x2, x3, x4) (y1, y2, y3, y4))
 | 11, v, _ => v = .bool (sgLt (x1, x2, x3, x4) (y1, y2, y3, y4))
 | _, _, _ => True
theorem VlgS.mono {n cap A c : Nat} {x1 x2 x3 x4 y1 y2 y3 y4 : Int} {B j : Nat} {v : Value} {W W2 : World} (_hB : Below W.heap.size W W2) (h : VlgS n cap A c x1 x2 x3 x4 y1 y2 y3 y4 B j v W) : VlgS n cap A c x1 x2 x3 x4 y1 y2 y3 y4 B j v W2 := by
 unfold VlgS at *
 split <;> simp only at h <;> first | exact h | trivial
set_option maxRecDepth 100000 in
set_option maxHeartbeats 4000000 in
theorem lgS {Q : Exit → Act → World → Prop} {n cap A c : Nat} {x1 x2 x3 x4 y1 y2 y3 y4 : Int} {P : Nat} {w0 : World} {a0 : Act} {idq : Nat} {t0 t1 t2 t3 t4 t5 t6 t7 t8 t9 t10 t11 : TypeId} {q0 q1 q2 q3 q4 q5 q6 q7 q8 q9 q10 q11 : String}
   (hc : c < n) (hn : n ≤ 1000) (h3 : a0.tmps[3]? = some (.slice (some ⟨A, 0, none⟩) n cap)) (h6 : a0.tmps[6]? = some (.pointer (some ⟨P, 0, none⟩))) (h7 : a0.tmps[7]? = some (.int .i64 (c : Int))) (k0 : w0.cell? ⟨A, c * 4, none⟩ = some (.int .i64 x1)) (l0 : (⟨A, c * 4, none⟩ : Addr).block < w0.heap.size) (k1 : w0.cell? ⟨A, c * 4 + 1, none⟩ = some (.int .i64 x2)) (l1 : (⟨A, c * 4 + 1, none⟩ : Addr).block < w0.heap.size) (k2 : w0.cell? ⟨A, c * 4 + 2, none⟩ = some (.int .i64 x3)) (l2 : (⟨A, c * 4 + 2, none⟩ : Addr).block < w0.heap.size) (k3 : w0.cell? ⟨A, c * 4 + 3, none⟩ = some (.int .i64 x4)) (l3 : (⟨A, c * 4 + 3, none⟩ : Addr).block < w0.heap.size) (k4 : w0.cell? ⟨P, 0, none⟩ = some (.int .i64 y1)) (l4 : (⟨P, 0, none⟩ : Addr).block < w0.heap.size) (k5 : w0.cell? ⟨P, 1, none⟩ = some (.int .i64 y2)) (l5 : (⟨P, 1, none⟩ : Addr).block < w0.heap.size) (k6 : w0.cell? ⟨P, 2, none⟩ = some (.int .i64 y3)) (l6 : (⟨P, 2, none⟩ : Addr).block < w0.heap.size) (k7 : w0.cell? ⟨P, 3, none⟩ = some (.int .i64 y4)) (l7 : (⟨P, 3, none⟩ : Addr).block < w0.heap.size) (hz : a0.tmps.size = 65)
   (hQ : ∀ aq W, aq.tmps.size = a0.tmps.size → aq.defers = a0.defers → (∀ e, e ∉ ([36, 37, 38, 39, 40, 41, 42, 43, 44, 45, 46, 47] : List Nat) → aq.tmps[e]? = a0.tmps[e]?) → VlgS n cap A c x1 x2 x3 x4 y1 y2 y3 y4 w0.heap.size 11 (aq.tmps.getD 47 undef) W → Below w0.heap.size w0 W → Q .normal aq W) :
   (Code.region idq #[{ dst := some 36, op := Op.move (Operand.tmp 7), type := t0, pos := q0, after := #[], guard := none },
   { dst := some 37, op := Op.move (Operand.tmp 3), type := t1, pos := q1, after := #[], guard := none },
   { dst := some 38, op := Op.call { callee := Callee.builtin Builtin.len, args := #[Operand.tmp 37], argTypes := #[24] }, type := t2, pos := q2, after := #[{ on := 1, ground := Ground.data }], guard := none },
   { dst := some 39, op := Op.binOp BinOp.lss 3 (Operand.tmp 36) (Operand.tmp 38) 3, type := t3, pos := q3, after := #[{ on := 0, ground := Ground.data }, { on := 2, ground := Ground.data }], guard := none },
   { dst := some 40, op := Op.move (Operand.tmp 39), type := t4, pos := q4, after := #[{ on := 3, ground := Ground.data }], guard := none },
   { dst := some 41, op := Op.move (Operand.tmp 3), type := t5, pos := q5, after := #[{ on := 4, ground := Ground.guard }], guard := some (4, true) },
   { dst := some 42, op := Op.move (Operand.tmp 7), type := t6, pos := q6, after := #[{ on := 4, ground := Ground.guard }], guard := some (4, true) },
   { dst := some 43, op := Op.indexAddr 24 (Operand.tmp 41) (Operand.tmp 42), type := t7, pos := q7, after := #[{ on := 5, ground := Ground.data }, { on := 6, ground := Ground.data }, { on := 4, ground := Ground.guard }], guard := some (4, true) },
   { dst := some 44, op := Op.load 53 (Operand.tmp 43), type := t8, pos := q8, after := #[{ on := 7, ground := Ground.data }, { on := 4, ground := Ground.guard }], guard := some (4, true) },
   { dst := some 45, op := Op.load 53 (Operand.tmp 6), type := t9, pos := q9, after := #[{ on := 4, ground := Ground.guard }], guard := some (4, true) },
   { dst := some 46, op := Op.call { callee := Callee.value (Operand.func 30), args := #[Operand.tmp 44, Operand.tmp 45], argTypes := #[53, 53] }, type := t10, pos := q10, after := #[{ on := 8, ground := Ground.data }, { on := 9, ground := Ground.data }, { on := 4, ground := Ground.chain }, { on := 4, ground := Ground.guard }], guard := some (4, true) },
   { dst := some 47, op := Op.pick (Operand.tmp 40) (Operand.tmp 46) (Operand.const (Value.bool false)), type := t11, pos := q11, after := #[{ on := 4, ground := Ground.data }, { on := 10, ground := Ground.data }], guard := none }] true).wp Tryz.prog Q a0 w0 := by
 have hS : distS [some 36, some 37, some 38, some 39, some 40, some 41, some 42, some 43, some 44, some 45, some 46, some 47] = true := rfl
 refine wp_region_q (by kernel_rfl) w0.heap.size [some 36, some 37, some 38, some 39, some 40, some 41, some 42, some 43, some 44, some 45, some 46, some 47] (VlgS n cap A c x1 x2 x3 x4 y1 y2 y3 y4 w0.heap.size) rfl ?_ ?_
 · intro Q lq aq W iq oq hJ hl ho hall
   have hJ2 := hJ
   obtain ⟨z1, z2, z3, z4, z5, z6, z7⟩ := hJ
   have g3 : aq.tmps.getD 3 undef = .slice (some ⟨A, 0, none⟩) n cap := by rw [Array.getD_eq_getD_getElem?, z4 3 (by decide), h3]; rfl
   have g6 : aq.tmps.getD 6 undef = .pointer (some ⟨P, 0, none⟩) := by rw [Array.getD_eq_getD_getElem?, z4 6 (by decide), h6]; rfl
   have g7 : aq.tmps.getD 7 undef = .int .i64 (c : Int) := by rw [Array.getD_eq_getD_getElem?, z4 7 (by decide), h7]; rfl
   have c0 : W.cell? ⟨A, c * 4, none⟩ = some (.int .i64 x1) := (z5.cell l0).trans k0
   have c1 : W.cell? ⟨A, c * 4 + 1, none⟩ = some (.int .i64 x2) := (z5.cell l1).trans k1
   have c2 : W.cell? ⟨A, c * 4 + 2, none⟩ = some (.int .i64 x3) := (z5.cell l2).trans k2
   have c3 : W.cell? ⟨A, c * 4 + 3, none⟩ = some (.int .i64 x4) := (z5.cell l3).trans k3
   have c4 : W.cell? ⟨P, 0, none⟩ = some (.int .i64 y1) := (z5.cell l4).trans k4
   have c5 : W.cell? ⟨P, 1, none⟩ = some (.int .i64 y2) := (z5.cell l5).trans k5
   have c6 : W.cell? ⟨P, 2, none⟩ = some (.int .i64 y3) := (z5.cell l6).trans k6
   have c7 : W.cell? ⟨P, 3, none⟩ = some (.int .i64 y4) := (z5.cell l7).trans k7
   match iq, ho with
   | 0, ho =>
     cases ho
     refine wpOp_of rfl rfl ?_
     have hK := fun (v : Value) (W2 : World) hW hT hv => hJ2.put hS 0 36 rfl (by omega) (W' := W2) hW hT v hv
     clear ho hall hl hQ
     generalize InvQ _ _ _ w0 a0 (lq.setIfInBounds 0 true) = K at hK ⊢
     clear hJ2 hS z1 z2 z3 z4 z6 z7
     go_simp
     exact hK _ _ z5 (fun _ _ h => h) rfl
   | 1, ho =>
     cases ho
     refine wpOp_of rfl rfl ?_
     have hK := fun (v : Value) (W2 : World) hW hT hv => hJ2.put hS 1 37 rfl (by omega) (W' := W2) hW hT v hv
     clear ho hall hl hQ
     generalize InvQ _ _ _ w0 a0 (lq.setIfInBounds 1 true) = K at hK ⊢
     clear hJ2 hS z1 z2 z3 z4 z6 z7
     go_simp
     exact hK _ _ z5 (fun _ _ h => h) rfl
   | 2, ho =>
     cases ho
     refine wpOp_of rfl rfl ?_
     have f1 : (aq.tmps.getD 37 undef) = .slice (some ⟨A, 0, none⟩) n cap := z6 1 37 (hall { on := 1, ground := Ground.data } (by simp) rfl) rfl
     have hK := fun (v : Value) (W2 : World) hW hT hv => hJ2.put hS 2 38 rfl (by omega) (W' := W2) hW hT v hv
     clear ho hall hl hQ
     generalize InvQ _ _ _ w0 a0 (lq.setIfInBounds 2 true) = K at hK ⊢
     clear hJ2 hS z1 z2 z3 z4 z6 z7
     go_simp
     exact hK _ _ z5 (fun _ _ h => h) rfl
   | 3, ho =>
     cases ho
     refine wpOp_of rfl rfl ?_
     have f0 : (aq.tmps.getD 36 undef) = .int .i64 (c : Int) := z6 0 36 (hall { on := 0, ground := Ground.data } (by simp) rfl) rfl
     have f2 : (aq.tmps.getD 38 undef) = .int .i64 (n : Int) := z6 2 38 (hall { on := 2, ground := Ground.data } (by simp) rfl) rfl
     have hcI : (c : Int) < n := by omega
     have hnI : (n : Int) ≤ 1000 := by omega
     have hK := fun (v : Value) (W2 : World) hW hT hv => hJ2.put hS 3 39 rfl (by omega) (W' := W2) hW hT v hv
     clear ho hall hl hQ
     generalize InvQ _ _ _ w0 a0 (lq.setIfInBounds 3 true) = K at hK ⊢
     clear hJ2 hS z1 z2 z3 z4 z6 z7
     go_simp
     exact hK _ _ z5 (fun _ _ h => h) rfl
   | 4, ho =>
     cases ho
     refine wpOp_of rfl rfl ?_
     have f3 : (aq.tmps.getD 39 undef) = .bool true := z6 3 39 (hall { on := 3, ground := Ground.data } (by simp) rfl) rfl
     have hK := fun (v : Value) (W2 : World) hW hT hv => hJ2.put hS 4 40 rfl (by omega) (W' := W2) hW hT v hv
     clear ho hall hl hQ
     generalize InvQ _ _ _ w0 a0 (lq.setIfInBounds 4 true) = K at hK ⊢
     clear hJ2 hS z1 z2 z3 z4 z6 z7
     go_simp
     exact hK _ _ z5 (fun _ _ h => h) rfl
   | 5, ho =>
     cases ho
     have fg : aq.tmps.getD 40 undef = .bool true := z6 4 40 (hall { on := 4, ground := Ground.guard } (by simp) rfl) rfl
     refine wpOp_on rfl rfl rfl rfl fg ?_
     have hK := fun (v : Value) (W2 : World) hW hT hv => hJ2.put hS 5 41 rfl (by omega) (W' := W2) hW hT v hv
     clear ho hall hl hQ
     generalize InvQ _ _ _ w0 a0 (lq.setIfInBounds 5 true) = K at hK ⊢
     clear hJ2 hS z1 z2 z3 z4 z6 z7
     go_simp
     exact hK _ _ z5 (fun _ _ h => h) rfl
   | 6, ho =>
     cases ho
     have fg : aq.tmps.getD 40 undef = .bool true := z6 4 40 (hall { on := 4, ground := Ground.guard } (by simp) rfl) rfl
     refine wpOp_on rfl rfl rfl rfl fg ?_
     have hK := fun (v : Value) (W2 : World) hW hT hv => hJ2.put hS 6 42 rfl (by omega) (W' := W2) hW hT v hv
     clear ho hall hl hQ
     generalize InvQ _ _ _ w0 a0 (lq.setIfInBounds 6 true) = K at hK ⊢
     clear hJ2 hS z1 z2 z3 z4 z6 z7
     go_simp
     exact hK _ _ z5 (fun _ _ h => h) rfl
   | 7, ho =>
     cases ho
     have fg : aq.tmps.getD 40 undef = .bool true := z6 4 40 (hall { on := 4, ground := Ground.guard } (by simp) rfl) rfl
     refine wpOp_on rfl rfl rfl rfl fg ?_
     have f5 : (aq.tmps.getD 41 undef) = .slice (some ⟨A, 0, none⟩) n cap := z6 5 41 (hall { on := 5, ground := Ground.data } (by simp) rfl) rfl
     have f6 : (aq.tmps.getD 42 undef) = .int .i64 (c : Int) := z6 6 42 (hall { on := 6, ground := Ground.data } (by simp) rfl) rfl
     have hcI : (c : Int) < n := by omega
     have hnI : (n : Int) ≤ 1000 := by omega
     have hK := fun (v : Value) (W2 : World) hW hT hv => hJ2.put hS 7 43 rfl (by omega) (W' := W2) hW hT v hv
     clear ho hall hl hQ
     generalize InvQ _ _ _ w0 a0 (lq.setIfInBounds 7 true) = K at hK ⊢
     clear hJ2 hS z1 z2 z3 z4 z6 z7
     go_simp
     exact hK _ _ z5 (fun _ _ h => h) rfl
   | 8, ho =>
     cases ho
     have fg : aq.tmps.getD 40 undef = .bool true := z6 4 40 (hall { on := 4, ground := Ground.guard } (by simp) rfl) rfl
     refine wpOp_on rfl rfl rfl rfl fg ?_
     have f7 : (aq.tmps.getD 43 undef) = .pointer (some ⟨A, c * 4, none⟩) := z6 7 43 (hall { on := 7, ground := Ground.data } (by simp) rfl) rfl
     have hK := fun (v : Value) (W2 : World) hW hT hv => hJ2.put hS 8 44 rfl (by omega) (W' := W2) hW hT v hv
     clear ho hall hl hQ
     generalize InvQ _ _ _ w0 a0 (lq.setIfInBounds 8 true) = K at hK ⊢
     clear hJ2 hS z1 z2 z3 z4 z6 z7
     go_simp
     exact hK _ _ z5 (fun _ _ h => h) rfl
   | 9, ho =>
     cases ho
     have fg : aq.tmps.getD 40 undef = .bool true := z6 4 40 (hall { on := 4, ground := Ground.guard } (by simp) rfl) rfl
     refine wpOp_on rfl rfl rfl rfl fg ?_
     have hK := fun (v : Value) (W2 : World) hW hT hv => hJ2.put hS 9 45 rfl (by omega) (W' := W2) hW hT v hv
     clear ho hall hl hQ
     generalize InvQ _ _ _ w0 a0 (lq.setIfInBounds 9 true) = K at hK ⊢
     clear hJ2 hS z1 z2 z3 z4 z6 z7
     go_simp
     exact hK _ _ z5 (fun _ _ h => h) rfl
   | 10, ho =>
     cases ho
     have fg : aq.tmps.getD 40 undef = .bool true := z6 4 40 (hall { on := 4, ground := Ground.guard } (by simp) rfl) rfl
     refine wpOp_on rfl rfl rfl rfl fg ?_
     have f8 : (aq.tmps.getD 44 undef) = .agg #[.int .i64 x1, .int .i64 x2, .int .i64 x3, .int .i64 x4] := z6 8 44 (hall { on := 8, ground := Ground.data } (by simp) rfl) rfl
     have f9 : (aq.tmps.getD 45 undef) = .agg #[.int .i64 y1, .int .i64 y2, .int .i64 y3, .int .i64 y4] := z6 9 45 (hall { on := 9, ground := Ground.data } (by simp) rfl) rfl
     have hK := fun (v : Value) (W2 : World) hW hT hv => hJ2.put hS 10 46 rfl (by omega) (W' := W2) hW hT v hv
     clear ho hall hl hQ
     generalize InvQ _ _ _ w0 a0 (lq.setIfInBounds 10 true) = K at hK ⊢
     clear hJ2 hS z1 z2 z3 z4 z6 z7
     go_simp
     refine (l6SegLess_any x1 x2 x3 x4 y1 y2 y3 y4 W).mono ?_
     rintro e v1 ⟨rfl, hBv⟩
     exact hK _ _ (z5.trans (hBv.mono z5.size)) (fun j v h => h.mono hBv) rfl
   | 11, ho =>
     cases ho
     refine wpOp_of rfl rfl ?_
     have f4 : (aq.tmps.getD 40 undef) = .bool true := z6 4 40 (hall { on := 4, ground := Ground.data } (by simp) rfl) rfl
     have f10 : (aq.tmps.getD 46 undef) = .bool (sgLt (x1, x2, x3, x4) (y1, y2, y3, y4)) := z6 10 46 (hall { on := 10, ground := Ground.data } (by simp) rfl) rfl
     have hK := fun (v : Value) (W2 : World) hW hT hv => hJ2.put hS 11 47 rfl (by omega) (W' := W2) hW hT v hv
     clear ho hall hl hQ
     generalize InvQ _ _ _ w0 a0 (lq.setIfInBounds 11 true) = K at hK ⊢
     clear hJ2 hS z1 z2 z3 z4 z6 z7
     go_simp
     exact hK _ _ z5 (fun _ _ h => h) rfl
   | iq + 12, ho => simp at ho
 · intro lq aq W hJ hr
   obtain ⟨z1, z2, z3, z4, z5, z6, z7⟩ := hJ
   have hl := listed_of hr [0, 1, 2, 3, 4, 5, 6, 7, 8, 9, 10, 11] [] (by simp) (by kernel_rfl) (by rw [z1]; decide)
   exact hQ aq W z2 z3 (fun e he => z4 e (by simpa using he)) (z6 11 47 (hl 11 (by simp)) rfl) z5
def VlgN (n cap : Nat) (ao : Option Addr) (_B : Nat) : Nat → Value → World → Prop
 | 0, v, _ => v = .int .i64 (n : Int)
 | 1, v, _ => v = .slice ao n cap
 | 2, v, _ => v = .int .i64 (n : Int)
 | 3, v, _ => v = .bool false
 | 4, v, _ => v = .bool false
 | 5, v, _ => v = undef
 | 6, v, _ => v = undef
 | 7, v, _ => v = undef
 | 8, v, _ => v = undef
 | 9, v, _ => v = undef
 | 10, v, _ => v = undef
 | 11, v, _ => v = .bool false
 | _, _, _ => True
set_option maxRecDepth 100000 in
set_option maxHeartbeats 4000000 in
theorem lgN {Q : Exit → Act → World → Prop} {n cap : Nat} {ao : Option Addr}  {w0 : World} {a0 : Act} {idq : Nat} {t0 t1 t2 t3 t4 t5 t6 t7 t8 t9 t10 t11 : TypeId} {q0 q1 q2 q3 q4 q5 q6 q7 q8 q9 q10 q11 : String}
    (h3 : a0.tmps[3]? = some (.slice ao n cap)) (h7 : a0.tmps[7]? = some (.int .i64 (n : Int)))  (hz : a0.tmps.size = 65)
   (hQ : ∀ aq W, aq.tmps.size = a0.tmps.size → aq.defers = a0.defers → (∀ e, e ∉ ([36, 37, 38, 39, 40, 41, 42, 43, 44, 45, 46, 47] : List Nat) → aq.tmps[e]? = a0.tmps[e]?) → VlgN n cap ao w0.heap.size 11 (aq.tmps.getD 47 undef) W → Below w0.heap.size w0 W → Q .normal aq W) :
   (Code.region idq #[{ dst := some 36, op := Op.move (Operand.tmp 7), type := t0, pos := q0, after := #[], guard := none },
   { dst := some 37, op := Op.move (Operand.tmp 3), type := t1, pos := q1, after := #[], guard := none },
   { dst := some 38, op := Op.call { callee := Callee.builtin Builtin.len, args := #[Operand.tmp 37], argTypes := #[24] }, type := t2, pos := q2, after := #[{ on := 1, ground := Ground.data }], guard := none },
   { dst := some 39, op := Op.binOp BinOp.lss 3 (Operand.tmp 36) (Operand.tmp 38) 3, type := t3, pos := q3, after := #[{ on := 0, ground := Ground.data }, { on := 2, ground := Ground.data }], guard := none },
   { dst := some 40, op := Op.move (Operand.tmp 39), type := t4, pos := q4, after := #[{ on := 3, ground := Ground.data }], guard := none },
   { dst := some 41, op := Op.move (Operand.tmp 3), type := t5, pos := q5, after := #[{ on := 4, ground := Ground.guard }], guard := some (4, true) },
   { dst := some 42, op := Op.move (Operand.tmp 7), type := t6, pos := q6, after := #[{ on := 4, ground := Ground.guard }], guard := some (4, true) },
   { dst := some 43, op := Op.indexAddr 24 (Operand.tmp 41) (Operand.tmp 42), type := t7, pos := q7, after := #[{ on := 5, ground := Ground.data }, { on := 6, ground := Ground.data }, { on := 4, ground := Ground.guard }], guard := some (4, true) },
   { dst := some 44, op := Op.load 53 (Operand.tmp 43), type := t8, pos := q8, after := #[{ on := 7, ground := Ground.data }, { on := 4, ground := Ground.guard }], guard := some (4, true) },
   { dst := some 45, op := Op.load 53 (Operand.tmp 6), type := t9, pos := q9, after := #[{ on := 4, ground := Ground.guard }], guard := some (4, true) },
   { dst := some 46, op := Op.call { callee := Callee.value (Operand.func 30), args := #[Operand.tmp 44, Operand.tmp 45], argTypes := #[53, 53] }, type := t10, pos := q10, after := #[{ on := 8, ground := Ground.data }, { on := 9, ground := Ground.data }, { on := 4, ground := Ground.chain }, { on := 4, ground := Ground.guard }], guard := some (4, true) },
   { dst := some 47, op := Op.pick (Operand.tmp 40) (Operand.tmp 46) (Operand.const (Value.bool false)), type := t11, pos := q11, after := #[{ on := 4, ground := Ground.data }, { on := 10, ground := Ground.data }], guard := none }] true).wp Tryz.prog Q a0 w0 := by
 have hS : distS [some 36, some 37, some 38, some 39, some 40, some 41, some 42, some 43, some 44, some 45, some 46, some 47] = true := rfl
 refine wp_region_q (by kernel_rfl) w0.heap.size [some 36, some 37, some 38, some 39, some 40, some 41, some 42, some 43, some 44, some 45, some 46, some 47] (VlgN n cap ao w0.heap.size) rfl ?_ ?_
 · intro Q lq aq W iq oq hJ hl ho hall
   have hJ2 := hJ
   obtain ⟨z1, z2, z3, z4, z5, z6, z7⟩ := hJ
   have g3 : aq.tmps.getD 3 undef = .slice ao n cap := by rw [Array.getD_eq_getD_getElem?, z4 3 (by decide), h3]; rfl
   have g7 : aq.tmps.getD 7 undef = .int .i64 (n : Int) := by rw [Array.getD_eq_getD_getElem?, z4 7 (by decide), h7]; rfl
   match iq, ho with
   | 0, ho =>
     cases ho
     refine wpOp_of rfl rfl ?_
     have hK := fun (v : Value) (W2 : World) hW hT hv => hJ2.put hS 0 36 rfl (by omega) (W' := W2) hW hT v hv
     clear ho hall hl hQ
     generalize InvQ _ _ _ w0 a0 (lq.setIfInBounds 0 true) = K at hK ⊢
     clear hJ2 hS z1 z2 z3 z4 z6 z7
     go_simp
     exact hK _ _ z5 (fun _ _ h => h) rfl
   | 1, ho =>
     cases ho
     refine wpOp_of rfl rfl ?_
     have hK := fun (v : Value) (W2 : World) hW hT hv => hJ2.put hS 1 37 rfl (by omega) (W' := W2) hW hT v hv
     clear ho hall hl hQ
     generalize InvQ _ _ _ w0 a0 (lq.setIfInBounds 1 true) = K at hK ⊢
     clear hJ2 hS z1 z2 z3 z4 z6 z7
     go_simp
     exact hK _ _ z5 (fun _ _ h => h) rfl
   | 2, ho =>
     cases ho
     refine wpOp_of rfl rfl ?_
     have f1 : (aq.tmps.getD 37 undef) = .slice ao n cap := z6 1 37 (hall { on := 1, ground := Ground.data } (by simp) rfl) rfl
     have hK := fun (v : Value) (W2 : World) hW hT hv => hJ2.put hS 2 38 rfl (by omega) (W' := W2) hW hT v hv
     clear ho hall hl hQ
     generalize InvQ _ _ _ w0 a0 (lq.setIfInBounds 2 true) = K at hK ⊢
     clear hJ2 hS z1 z2 z3 z4 z6 z7
     go_simp
     exact hK _ _ z5 (fun _ _ h => h) rfl
   | 3, ho =>
     cases ho
     refine wpOp_of rfl rfl ?_
     have f0 : (aq.tmps.getD 36 undef) = .int .i64 (n : Int) := z6 0 36 (hall { on := 0, ground := Ground.data } (by simp) rfl) rfl
     have f2 : (aq.tmps.getD 38 undef) = .int .i64 (n : Int) := z6 2 38 (hall { on := 2, ground := Ground.data } (by simp) rfl) rfl
     have hK := fun (v : Value) (W2 : World) hW hT hv => hJ2.put hS 3 39 rfl (by omega) (W' := W2) hW hT v hv
     clear ho hall hl hQ
     generalize InvQ _ _ _ w0 a0 (lq.setIfInBounds 3 true) = K at hK ⊢
     clear hJ2 hS z1 z2 z3 z4 z6 z7
     go_simp
     exact hK _ _ z5 (fun _ _ h => h) (by show _ = _; first | rfl | simp)
   | 4, ho =>
     cases ho
     refine wpOp_of rfl rfl ?_
     have f3 : (aq.tmps.getD 39 undef) = .bool false := z6 3 39 (hall { on := 3, ground := Ground.data } (by simp) rfl) rfl
     have hK := fun (v : Value) (W2 : World) hW hT hv => hJ2.put hS 4 40 rfl (by omega) (W' := W2) hW hT v hv
     clear ho hall hl hQ
     generalize InvQ _ _ _ w0 a0 (lq.setIfInBounds 4 true) = K at hK ⊢
     clear hJ2 hS z1 z2 z3 z4 z6 z7
     go_simp
     exact hK _ _ z5 (fun _ _ h => h) rfl
   | 5, ho =>
     cases ho
     have fg : aq.tmps.getD 40 undef = .bool false := z6 4 40 (hall { on := 4, ground := Ground.guard } (by simp) rfl) rfl
     refine wpOp_off rfl rfl rfl rfl fg ?_
     exact hJ2.put hS 5 41 rfl (by omega) z5 (fun _ _ h => h) undef rfl
   | 6, ho =>
     cases ho
     have fg : aq.tmps.getD 40 undef = .bool false := z6 4 40 (hall { on := 4, ground := Ground.guard } (by simp) rfl) rfl
     refine wpOp_off rfl rfl rfl rfl fg ?_
     exact hJ2.put hS 6 42 rfl (by omega) z5 (fun _ _ h => h) undef rfl
   | 7, ho =>
     cases ho
     have fg : aq.tmps.getD 40 undef = .bool false := z6 4 40 (hall { on := 4, ground := Ground.guard } (by simp) rfl) rfl
     refine wpOp_off rfl rfl rfl rfl fg ?_
     exact hJ2.put hS 7 43 rfl (by omega) z5 (fun _ _ h => h) undef rfl
   | 8, ho =>
     cases ho
     have fg : aq.tmps.getD 40 undef = .bool false := z6 4 40 (hall { on := 4, ground := Ground.guard } (by simp) rfl) rfl
     refine wpOp_off rfl rfl rfl rfl fg ?_
     exact hJ2.put hS 8 44 rfl (by omega) z5 (fun _ _ h => h) undef rfl
   | 9, ho =>
     cases ho
     have fg : aq.tmps.getD 40 undef = .bool false := z6 4 40 (hall { on := 4, ground := Ground.guard } (by simp) rfl) rfl
     refine wpOp_off rfl rfl rfl rfl fg ?_
     exact hJ2.put hS 9 45 rfl (by omega) z5 (fun _ _ h => h) undef rfl
   | 10, ho =>
     cases ho
     have fg : aq.tmps.getD 40 undef = .bool false := z6 4 40 (hall { on := 4, ground := Ground.guard } (by simp) rfl) rfl
     refine wpOp_off rfl rfl rfl rfl fg ?_
     exact hJ2.put hS 10 46 rfl (by omega) z5 (fun _ _ h => h) undef rfl
   | 11, ho =>
     cases ho
     refine wpOp_of rfl rfl ?_
     have f4 : (aq.tmps.getD 40 undef) = .bool false := z6 4 40 (hall { on := 4, ground := Ground.data } (by simp) rfl) rfl
     have f10 : (aq.tmps.getD 46 undef) = undef := z6 10 46 (hall { on := 10, ground := Ground.data } (by simp) rfl) rfl
     have hK := fun (v : Value) (W2 : World) hW hT hv => hJ2.put hS 11 47 rfl (by omega) (W' := W2) hW hT v hv
     clear ho hall hl hQ
     generalize InvQ _ _ _ w0 a0 (lq.setIfInBounds 11 true) = K at hK ⊢
     clear hJ2 hS z1 z2 z3 z4 z6 z7
     go_simp
     exact hK _ _ z5 (fun _ _ h => h) rfl
   | iq + 12, ho => simp at ho
 · intro lq aq W hJ hr
   obtain ⟨z1, z2, z3, z4, z5, z6, z7⟩ := hJ
   have hl := listed_of hr [0, 1, 2, 3, 4, 5, 6, 7, 8, 9, 10, 11] [] (by simp) (by kernel_rfl) (by rw [z1]; decide)
   exact hQ aq W z2 z3 (fun e he => z4 e (by simpa using he)) (z6 11 47 (hl 11 (by simp)) rfl) z5
theorem ownN_form9 {w : World} {base n : Nat} {e : TypeId} {size : Nat} {v : Value} {xs : List Value} (h : w.ownsRow base e size v n xs) (hn : 0 < n) : ∃ g cap, v = .slice (some ⟨g, 0, none⟩) n cap ∧ base ≤ g ∧ g < w.heap.size ∧ n ≤ cap ∧ cap ≤ maxLen := by
 rcases h.2 with ⟨_, h2⟩ | ⟨g, cap, cur, h1, h2, h3, h4, h5, h6, h7⟩
 · omega
 · exact ⟨g, cap, h1, h2, (Array.getElem?_eq_some_iff.1 h3).1, h4, h5⟩
set_option maxRecDepth 100000 in
set_option maxHeartbeats 8000000 in
theorem specLayerSegs_any (ao : Option Addr) (n cap : Nat) (S : Nat → Option Addr × Nat) (L : Nat → Nat) (q : Nat → Ps) (hn : n ≤ 1048576) (hL : ∀ i, i < n → L i ≤ 1048576) (hly : lyB n L q = true) (w : World) (hS : RgIn w ao n S L q) : Calls Tryz.prog 7 #[.slice ao n cap] w (LsP (allS L q n) w) := by
 have C := fun w h => l6Ok_any ao n cap S L q hn hL w h
 rw [hly] at C
 obtain ⟨hn6, hrg⟩ := lyB_ok hly
 have HS : Hid (RgIn w ao n S L q) := hS
 have HRG : Hid (∀ i, i < n → RgOk (L i) (q i)) := hrg
 have hnI : (n : Int) ≤ 6 := by omega
 obtain ⟨i0, hi0, hz0, hz1, hz2⟩ := info_parts Tryz.infoSeg2
 have hall := fun c => allS_le (c := c) hrg hn6
 have HAL : Hid (∀ c, c ≤ n → (allS L q c).length ≤ 72) := hall
 clear hS hrg hL hly hall
 go_enter Tryz.func7, Tryz.ntmps7
 go_wp2_with fail
 have O0 : OwL w.heap.size (w.alloc (.cells #[] 53)) (allI (allS L q 0)) (.slice (some ⟨w.heap.size, 0, none⟩) 0 0) := ⟨w.heap.size, 0, rfl, Nat.le_refl _, by simp, Nat.le_refl _, by omega, World.ownsRow_made w #[] 0 (Nat.le_refl _) (by decide) rfl⟩
 have HB0 : Below w.heap.size w (w.alloc (.cells #[] 53)) := (Below.refl _ _).alloc (Nat.le_refl _) _
 generalize (w.alloc (.cells #[] 53)) = W2 at *
 refine (C _ (HS.out.step HB0)).mono ?_
 rintro e w1 ⟨rfl, hB⟩
 replace O0 := O0.step hB
 replace HB0 := HB0.trans (hB.mono HB0.size)
 clear hB C
 go_wp2_with fail
 go_loopw [3, 4] (fun o i wr => ∃ c : Nat, c ≤ n ∧ i = .int .i64 c ∧ OwL w.heap.size wr (allI (allS L q c)) o ∧ Below w.heap.size w wr) (fun _ i _ => n - (intOf i).toNat)
 case atStart => exact ⟨0, by omega, rfl, O0, HB0⟩
 case round =>
   clear O0 HB0
   obtain ⟨c, hcn, rfl, HO, HB⟩ := hrel
   by_cases hlt : c < n
   · have hcI : (c : Int) < n := by omega
     have h12 := (HRG.out c hlt).h12
     obtain ⟨A, off, rfl, hA, r0, hrow⟩ := HS.out c hlt
     have HR : Hid (SpIn w (S c).1 (L c) (q c)) := hrow
     have HA : Hid (w.cell? ⟨A, off + c, none⟩ = some (.slice (S c).1 (L c) (S c).2)) := r0
     have hlI : (L c : Int) ≤ 12 := by omega
     have HO1 : OwL w.heap.size wr (allI (allS L q c ++ upS (L c) (q c) 0)) u3 := by
       unfold upS
       rw [List.range_zero, List.map_nil, List.append_nil]
       exact HO
     have HAL2 := HAL.out c hcn
     clear hrow r0 HO
     go_wp2_with fail
     generalize wr = W4 at *
     go_loopw [3, 5] (fun o i wr => ∃ d : Nat, d ≤ L c ∧ i = .int .i64 d ∧ OwL w.heap.size wr (allI (allS L q c ++ upS (L c) (q c) d)) o ∧ Below w.heap.size w wr) (fun _ i _ => L c - (intOf i).toNat)
     case atStart => exact ⟨0, by omega, rfl, HO1, HB⟩
     case round =>
       clear HO1 HB
       obtain ⟨d, hd, rfl, HO, HB⟩ := hrel
       have q0 := (HB.cell (p := ⟨A, off + c, none⟩) hA).trans HA.out
       by_cases hdl : d < L c
       · have hdI : (d : Int) < L c := by omega
         have L5 := fun w h => l5Side_any (S c).1 (L c) (S c).2 (q c) d hdl (by omega) w h
         obtain ⟨s, hs⟩ : ∃ s, sdA (L c) (q c) d = s := ⟨_, rfl⟩
         have HSN : Hid (upS (L c) (q c) (d + 1) = upS (L c) (q c) d ++ [s]) := by rw [← hs]; exact upS_succ _ _ _
         rw [hs] at L5
         clear hs
         obtain ⟨M, hM⟩ : ∃ M, allI (allS L q c ++ upS (L c) (q c) d) = M := ⟨_, rfl⟩
         rw [hM] at HO
         have HINS : Hid (insS M s = allI (allS L q c ++ upS (L c) (q c) (d + 1))) := by
           rw [HSN.out, ← List.append_assoc, allI_snoc, hM]
           exact rfl
         have hml : M.length ≤ 84 := by
           rw [← hM, allI_len, List.length_append]
           have : (upS (L c) (q c) d).length = d := by simp [upS]
           omega
         clear hM
         obtain ⟨j, hj, hins, hlt2⟩ := ins_cut s M
         have HLT : Hid (∀ c t, M[c]? = some t → c ≤ j → sgLt t s = decide (c < j)) := hlt2
         clear hlt2
         obtain ⟨x1, x2, x3, x4⟩ := s
         obtain ⟨s, hse⟩ : ∃ s : Sd, s = (x1, x2, x3, x4) := ⟨_, rfl⟩
         rw [← hse] at HINS hins HLT
         have HSE : Hid (s = (x1, x2, x3, x4)) := hse
         clear hse
         go_wp2_with fail
         refine (L5 _ (HR.out.step HB)).mono ?_
         rintro e w2 ⟨rfl, hB⟩
         replace HO := HO.step hB
         replace HB := HB.trans (hB.mono HB.size)
         clear hB L5 q0
         have hP := HB.size
         go_upto_region 11 with fail
         have B4 := Blk.new w2 [.int .i64 x1, .int .i64 x2, .int .i64 x3, .int .i64 x4] 53 rfl
         have hB : Below w2.heap.size w2 (w2.alloc (.cells #[.int .i64 x1, .int .i64 x2, .int .i64 x3, .int .i64 x4] 53)) := (Below.refl _ _).alloc (Nat.le_refl _) _
         replace HO := HO.step hB
         replace HB := HB.trans (hB.mono HB.size)
         clear hB
         generalize w2.heap.size = P at *
         generalize (w2.alloc (.cells #[.int .i64 x1, .int .i64 x2, .int .i64 x3, .int .i64 x4] 53)) = W5 at *
         obtain ⟨g, gc, hoe, hg1, hg2, hgc, hgm, hown⟩ := HO
         subst hoe
         have HOW : Hid _ := hown
         obtain ⟨m, hm⟩ : ∃ m, M.length = m := ⟨_, rfl⟩
         rw [hm] at hml hj hgc
         have HM : Hid (M.length = m) := hm
         rw [hm]
         clear hown hm
         have hmI : (m : Int) ≤ 84 := by omega
         have hjI : (j : Int) ≤ m := by omega
         have hgcI : (gc : Int) ≤ 9223372036854775807 := by omega
         have hmgI : (m : Int) ≤ gc := by omega
         go_wp2_with fail
         go_loopw [7] (fun k wr => ∃ a : Nat, a ≤ j ∧ k = .int .i64 a ∧ Below W5.heap.size W5 wr) (fun k _ => j - (intOf k).toNat)
         case atStart => exact ⟨0, by omega, rfl, Below.refl _ _⟩
         case round =>
           obtain ⟨a, ha, rfl, HBr⟩ := hrel
           have haI : (a : Int) ≤ m := by omega
           go_upto_region 12 with fail
           go_cut [47] (fun zv wx => zv = .bool (decide (a < j)) ∧ Below wr.heap.size wr wx)
           case first =>
             by_cases ham : a < m
             · obtain ⟨t, ht⟩ : ∃ t, M[a]? = some t := ⟨_, List.getElem?_eq_getElem (by rw [HM.out]; exact ham)⟩
               have hv : Hid (sgLt t s = decide (a < j)) := HLT.out a t ht ha
               rw [HSE.out] at hv
               obtain ⟨c0, c1, c2, c3⟩ := OwL.cell (own_stepG HOW.out HBr) ht
               obtain ⟨t1, t2, t3, t4⟩ := t
               have BR := B4.step HBr
               refine lgS (n := m) (cap := gc) (A := g) (c := a) (P := P) (x1 := t1) (x2 := t2) (x3 := t3) (x4 := t4) (y1 := x1) (y2 := x2) (y3 := x3) (y4 := x4) ham (by omega) rfl rfl rfl c0 (Nat.lt_of_lt_of_le hg2 HBr.size) c1 (Nat.lt_of_lt_of_le hg2 HBr.size) c2 (Nat.lt_of_lt_of_le hg2 HBr.size) c3 (Nat.lt_of_lt_of_le hg2 HBr.size) (BR.c 0 rfl) BR.lt (BR.c 1 rfl) BR.lt (BR.c 2 rfl) BR.lt (BR.c 3 rfl) BR.lt rfl ?_
               rintro ⟨tm, df⟩ Wz hz hdf hoff hx hBz
               simp only at hz hdf hoff hx
               change tm.getD 47 undef = .bool (sgLt (t1, t2, t3, t4) (x1, x2, x3, x4)) at hx
               subst hdf
               have htm := tmps_fold [36, 37, 38, 39, 40, 41, 42, 43, 44, 45, 46, 47] tm _ hz hoff
               simp only [List.foldl, List.setIfInBounds_toArray, List.set_cons_zero, List.set_cons_succ, hx] at htm
               clear hz hoff
               generalize tm.getD 36 undef = u0, tm.getD 37 undef = u1, tm.getD 38 undef = u2, tm.getD 39 undef = u3, tm.getD 40 undef = u4, tm.getD 41 undef = u5, tm.getD 42 undef = u6, tm.getD 43 undef = u7, tm.getD 44 undef = u8, tm.getD 45 undef = u9, tm.getD 46 undef = u10 at htm
               clear hx
               subst htm
               go_wp2_with fail
               go_meet
               exact ⟨congrArg Value.bool hv.out, hBz⟩
             · obtain rfl : a = m := by omega
               refine lgN (n := a) (cap := gc) (ao := some ⟨g, 0, none⟩) rfl rfl rfl ?_
               rintro ⟨tm, df⟩ Wz hz hdf hoff hx hBz
               simp only at hz hdf hoff hx
               change tm.getD 47 undef = .bool false at hx
               subst hdf
               have htm := tmps_fold [36, 37, 38, 39, 40, 41, 42, 43, 44, 45, 46, 47] tm _ hz hoff
               simp only [List.foldl, List.setIfInBounds_toArray, List.set_cons_zero, List.set_cons_succ, hx] at htm
               clear hz hoff
               generalize tm.getD 36 undef = u0, tm.getD 37 undef = u1, tm.getD 38 undef = u2, tm.getD 39 undef = u3, tm.getD 40 undef = u4, tm.getD 41 undef = u5, tm.getD 42 undef = u6, tm.getD 43 undef = u7, tm.getD 44 undef = u8, tm.getD 45 undef = u9, tm.getD 46 undef = u10 at htm
               clear hx
               subst htm
               go_wp2_with fail
               go_meet
               exact ⟨congrArg Value.bool (decide_eq_false (by omega)).symm, hBz⟩
           case rest =>
             obtain ⟨hq2, hBc⟩ := hcut
             subst hq2
             have HBN := HBr.trans (hBc.mono HBr.size)
             clear HBr hBc
             by_cases haj : a < j
             · rw [decide_eq_true haj]
               have haI2 : (a : Int) < m := by omega
               go_wp2
               go_roundw
               case rel => exact ⟨a + 1, by omega, by go_num, HBN⟩
               case measure => simp [intOf]; omega
             · obtain rfl : j = a := by omega
               rw [decide_eq_false haj]
               clear haj ha
               have B5 := B4.step HBN
               have hown := own_stepG HOW.out HBN
               have HB5 := HB.trans (HBN.mono HB.size)
               have hsz5 : w.heap.size ≤ wc.heap.size := HB5.size
               have hPs : P < wc.heap.size := B5.lt
               have hse := HSE.out
               have hMm := HM.out
               rw [hMm] at hown
               clear HB B4 HBN HOW
               generalize wc = w5 at *
               have x0 := B5.c 0 rfl; have x10 := B5.c 1 rfl; have x20 := B5.c 2 rfl; have x30 := B5.c 3 rfl
               have HM : (w5.alloc (.cells #[] 53)).ownsRow w5.heap.size 53 4 (.slice (some ⟨w5.heap.size, 0, none⟩) 0 0) 0 [] := World.ownsRow_made w5 #[] 0 (Nat.le_refl _) (by decide) rfl
               have H6 : Below w5.heap.size w5 (w5.alloc (.cells #[] 53)) := (Below.refl _ _).alloc (Nat.le_refl _) _
               have hown6 := own_stepG hown H6
               go_wp2_with (at_builtin; (refine wpList_append_own_at _ rfl _ _ 24 rfl w5.heap.size 53 i0 (.agg #[.int .i64 0, .int .i64 0, .int .i64 0, .int .i64 0]) 4 32 Tryz.underlying24 hi0 hz0 hz1 hz2 rfl (by decide) _ _ _ rfl HM ⟨g, 0, none⟩ j gc ((M.take j).flatMap sdE) rfl (by rw [flat_len, List.length_take]; omega) (fun jj u hj => hown6.cells rfl jj u (flat_takeC hj)) (flat_one _) (by unfold maxLen; omega) (by omega) (by simp) ?_))
               intro v1 w6 hown1 hgrow1 hnil1 hob1
               have HB6 := H6.grown hgrow1 (by simp) (fun k hk => (HM.lt k hk).1)
               have hs6 := HB6.size
               clear HM H6 hown6 hgrow1 hob1 hnil1
               have BS := B5.step HB6
               clear B5
               have x0 := BS.c 0 rfl; have x10 := BS.c 1 rfl; have x20 := BS.c 2 rfl; have x30 := BS.c 3 rfl
               have HWA : Below w6.heap.size w6 (w6.alloc (.cells #[.int .i64 x1, .int .i64 x2, .int .i64 x3, .int .i64 x4] 53)) := (Below.refl _ _).alloc (Nat.le_refl _) _
               have hown1E := own_stepG hown1 HWA
               go_wp2_with (at_builtin; (refine wpList_append_own_at _ rfl _ _ 24 rfl w5.heap.size 53 i0 (.agg #[.int .i64 0, .int .i64 0, .int .i64 0, .int .i64 0]) 4 32 Tryz.underlying24 hi0 hz0 hz1 hz2 rfl (by decide) _ _ _ rfl hown1E ⟨w6.heap.size, 0, none⟩ 1 1 [.int .i64 x1, .int .i64 x2, .int .i64 x3, .int .i64 x4] rfl rfl (cell_four_new _ _ _ _ _ _) (one_cell4 _ _ _ _) (by unfold maxLen; omega) (by omega) (by simp; omega) ?_))
               intro v2 w7 hown2 hgrow2 hnil2 hob2
               have HB7 := (HB6.trans (HWA.mono hs6)).grown hgrow2 (by simp; omega) (fun k hk => (hown1.lt k hk).1)
               have hown7 := own_stepG hown HB7
               have hs7 := HB7.size
               clear hown1 hown1E hgrow2 hob2 hnil2 HWA HB6 BS x0 x10 x20 x30
               by_cases hgc2 : gc = j
               · obtain rfl : gc = j := hgc2
                 go_wp2_with (at_builtin; (refine wpList_append_own_at _ rfl _ _ 24 rfl w5.heap.size 53 i0 (.agg #[.int .i64 0, .int .i64 0, .int .i64 0, .int .i64 0]) 4 32 Tryz.underlying24 hi0 hz0 hz1 hz2 rfl (by decide) _ _ _ rfl hown2 ⟨g, 0, none⟩ 0 0 [] rfl rfl (fun jj u hj => by cases hj) (fun u hu => by cases hu) (by unfold maxLen; omega) (by omega) (by omega) ?_))
                 intro v3 w8 hown3 hgrow3 _ _
                 have HB8 := HB7.grown hgrow3 (by omega) (fun k hk => (hown2.lt k hk).1)
                 have HBF := HB5.trans (HB8.mono HB5.size)
                 have hown4 : w8.ownsRow w5.heap.size 53 4 v3 (insS M s).length ((insS M s).flatMap sdE) := by
                   rw [hins]
                   have hd : M.drop gc = [] := List.drop_of_length_le (by omega)
                   rw [show (M.take gc ++ s :: M.drop gc).length = gc + 1 by simp; omega]
                   have e : (M.take gc ++ s :: M.drop gc).flatMap sdE = (M.take gc).flatMap sdE ++ [.int .i64 x1, .int .i64 x2, .int .i64 x3, .int .i64 x4] := by simp only [List.flatMap_append, List.flatMap_cons, hd, hse]; simp [sdE]
                   rw [e]
                   exact hown3
                 obtain ⟨g8, gc8, rfl, hg8, hg8b, hc8, hm8⟩ := ownN_form9 hown4 (by rw [hins, List.length_append, List.length_cons]; omega)
                 have HO8 : OwL w.heap.size w8 (insS M s) (.slice (some ⟨g8, 0, none⟩) (insS M s).length gc8) := ⟨g8, gc8, rfl, by omega, hg8b, hc8, by unfold maxLen at hm8; exact hm8, own_mono hown4 (by omega)⟩
                 have hfin : Hid (OwL w.heap.size w8 (allI (allS L q c ++ upS (L c) (q c) (d + 1))) (.slice (some ⟨g8, 0, none⟩) (insS M s).length gc8)) := by
                   rw [← HINS.out]
                   exact HO8
                 clear hown hown2 hown3 hown4 hgrow3 HB7 HB8 hown7 HO8
                 go_wp2
                 go_roundw
                 case rel => exact ⟨d + 1, by omega, by go_num, hfin.out, HBF⟩
                 case measure => simp [intOf]; omega
               · have hgc3 : ¬ (gc = j) := hgc2
                 go_wp2_with (at_builtin; (refine wpList_append_own_at _ rfl _ _ 24 rfl w5.heap.size 53 i0 (.agg #[.int .i64 0, .int .i64 0, .int .i64 0, .int .i64 0]) 4 32 Tryz.underlying24 hi0 hz0 hz1 hz2 rfl (by decide) _ _ _ rfl hown2 ⟨g, j * 4, none⟩ (m - j) (gc - j) ((M.drop j).flatMap sdE) rfl (by rw [flat_len, List.length_drop]; omega) (fun jj u hj => by rw [Addr.add_lit]; have h := hown7.cells rfl (j * 4 + jj) u (by rw [← List.getElem?_drop, flat_drop]; exact hj); rwa [Addr.add_lit, Nat.zero_add] at h) (flat_one _) (by unfold maxLen; omega) (by omega) (by omega) ?_))
                 intro v3 w8 hown3 hgrow3 _ _
                 have HB8 := HB7.grown hgrow3 (by omega) (fun k hk => (hown2.lt k hk).1)
                 have HBF := HB5.trans (HB8.mono HB5.size)
                 have hown4 : w8.ownsRow w5.heap.size 53 4 v3 (insS M s).length ((insS M s).flatMap sdE) := by
                   rw [hins]
                   skip
                   rw [show (M.take j ++ s :: M.drop j).length = j + 1 + (m - j) by simp; omega]
                   have e : (M.take j ++ s :: M.drop j).flatMap sdE = (M.take j).flatMap sdE ++ (.int .i64 x1 :: .int .i64 x2 :: .int .i64 x3 :: .int .i64 x4 :: (M.drop j).flatMap sdE) := by simp only [List.flatMap_append, List.flatMap_cons, hse]; simp [sdE]
                   rw [e]
                   exact hown3
                 obtain ⟨g8, gc8, rfl, hg8, hg8b, hc8, hm8⟩ := ownN_form9 hown4 (by rw [hins, List.length_append, List.length_cons]; omega)
                 have HO8 : OwL w.heap.size w8 (insS M s) (.slice (some ⟨g8, 0, none⟩) (insS M s).length gc8) := ⟨g8, gc8, rfl, by omega, hg8b, hc8, by unfold maxLen at hm8; exact hm8, own_mono hown4 (by omega)⟩
                 have hfin : Hid (OwL w.heap.size w8 (allI (allS L q c ++ upS (L c) (q c) (d + 1))) (.slice (some ⟨g8, 0, none⟩) (insS M s).length gc8)) := by
                   rw [← HINS.out]
                   exact HO8
                 clear hown hown2 hown3 hown4 hgrow3 HB7 HB8 hown7 HO8
                 go_wp2
                 go_roundw
                 case rel => exact ⟨d + 1, by omega, by go_num, hfin.out, HBF⟩
                 case measure => simp [intOf]; omega
       · obtain rfl : d = L c := by omega
         have HO2 : Hid (OwL w.heap.size wr (allI (allS L q (c + 1))) u3) := by
           rw [allS_succ, upS_all]
           exact HO
         clear HO
         go_wp2
         go_roundw
         case rel => exact ⟨c + 1, by omega, by go_num, HO2.out, HB⟩
         case measure => simp [intOf]; omega
   · obtain rfl : c = n := by omega
     obtain ⟨g, gc, rfl, hg1, hg2, hgc, hgm, hown⟩ := HO
     obtain ⟨m, hm⟩ : ∃ m, (allI (allS L q c)).length = m := ⟨_, rfl⟩
     rw [hm] at hown ⊢
     have HOW : Hid (wr.ownsRow w.heap.size 53 4 (.slice (some ⟨g, 0, none⟩) m gc) (allS L q c).length ((allI (allS L q c)).flatMap sdE)) := by
       rw [← allI_len, hm]
       exact hown
     clear hown hm hgc
     go_wp2
     go_ret
     exact ⟨_, rfl, HOW.out, HB⟩
def sdX (M : List Sd) (k : Nat) : Int := if k % 4 = 0 then (M.getD (k / 4) default).1 else if k % 4 = 1 then (M.getD (k / 4) default).2.1 else if k % 4 = 2 then (M.getD (k / 4) default).2.2.1 else (M.getD (k / 4) default).2.2.2
theorem sdX_at {M : List Sd} {k : Nat} (hk : k < M.length * 4) : (M.flatMap sdE)[k]? = some (.int .i64 (sdX M k)) := by
 obtain ⟨i, j, hj, rfl⟩ : ∃ i j, j < 4 ∧ k = i * 4 + j := ⟨k / 4, k % 4, Nat.mod_lt _ (by decide), by omega⟩
 have hi : i < M.length := by omega
 rw [flat_at _ _ _ hj, List.getElem?_eq_getElem hi]
 unfold sdX
 rw [show (i * 4 + j) / 4 = i by omega, show (i * 4 + j) % 4 = j by omega, List.getD_eq_getElem?_getD, List.getElem?_eq_getElem hi]
 rcases (show j = 0 ∨ j = 1 ∨ j = 2 ∨ j = 3 by omega) with h | h | h | h <;> subst h <;> rfl
theorem SgOwn.ofL {w : World} {base : Nat} {v : Value} {M : List Sd} (h : w.ownsRow base 53 4 v M.length (M.flatMap sdE)) : SgOwn w base v M.length (sdX M) := by
 rcases h.2 with ⟨h1, h2⟩ | ⟨g, cap, cur, h1, h2, h3, h4, h5, h6, h7⟩
 · exact .inl ⟨h1, h2⟩
 · refine .inr ⟨g, cap, fun i => cur.getD i undef, h1, h2, h4, ⟨cur, h3, by omega, fun i hi => ?_⟩, fun i hi => ?_⟩
   · simp [Array.getD_eq_getD_getElem?, show i < cur.size by omega]
   · have e : (cur.toList.take (M.length * 4))[i]? = (M.flatMap sdE)[i]? := by rw [h7]
     rw [List.getElem?_take_of_lt hi, sdX_at hi] at e
     simp only [Array.getElem?_toList] at e
     show cur.getD i undef = _
     rw [Array.getD_eq_getD_getElem?, e]
     rfl
def lsM (n : Nat) (L : Nat → Nat) (q : Nat → Ps) : List Sd := if lyB n L q = true then allI (allS L q n) else []
def LmP (m : Nat) (x : Nat → Int) (w : World) (e : Ending) (w' : World) : Prop := ∃ v, e = .returned v ∧ SgOwn w' w.heap.size v m x ∧ Below w.heap.size w w'
theorem LsP.lm {l : List Sd} {w : World} {e : Ending} {w' : World} (h : LsP l w e w') : LmP (allI l).length (sdX (allI l)) w e w' := by
 obtain ⟨v, h1, h2, h3⟩ := h
 refine ⟨v, h1, SgOwn.ofL ?_, h3⟩
 rw [allI_len]
 exact h2
set_option maxRecDepth 100000 in
set_option maxHeartbeats 2000000 in
theorem implLayerSegs_all (ao : Option Addr) (n cap : Nat) (S : Nat → Option Addr × Nat) (L : Nat → Nat) (q : Nat → Ps) (hn : n ≤ 1048576) (hcap : n ≤ cap) (hcap2 : cap ≤ 9223372036854775807) (hL : ∀ i, i < n → L i ≤ 1048576) (hC : ∀ i, i < n → L i ≤ (S i).2 ∧ (S i).2 ≤ 9223372036854775807) (w : World) (hS : RgIn w ao n S L q) : Calls Tryz.prog 9 #[.slice ao n cap] w (LmP (lsM n L q).length (sdX (lsM n L q)) w) := by
 cases hly : lyB n L q with
 | true =>
   unfold lsM
   rw [hly, if_pos rfl]
   exact (implLayerSegs_any ao n cap S L q hn hcap hcap2 hL hC hly w hS).mono fun _ _ h => h.lm
 | false =>
   have HN : Hid (lsM n L q = []) := by unfold lsM; rw [hly]; rfl
   have C := isLayer_any ao n cap S L q hn hcap hcap2 hL hC w hS
   rw [hly] at C
   clear hly hS hL hC
   go_enter Tryz.func9, Tryz.ntmps9
   go_wp2_with fail
   refine C.mono ?_
   rintro e w1 ⟨rfl, hB⟩
   clear C
   go_wp2
   go_ret
   rw [HN.out]
   exact ⟨_, rfl, .inl ⟨rfl, rfl⟩, hB⟩
set_option maxRecDepth 100000 in
set_option maxHeartbeats 2000000 in
theorem specLayerSegs_all (ao : Option Addr) (n cap : Nat) (S : Nat → Option Addr × Nat) (L : Nat → Nat) (q : Nat → Ps) (hn : n ≤ 1048576) (hL : ∀ i, i < n → L i ≤ 1048576) (w : World) (hS : RgIn w ao n S L q) : Calls Tryz.prog 7 #[.slice ao n cap] w (LmP (lsM n L q).length (sdX (lsM n L q)) w) := by
 cases hly : lyB n L q with
 | true =>
   unfold lsM
   rw [hly, if_pos rfl]
   exact (specLayerSegs_any ao n cap S L q hn hL hly w hS).mono fun _ _ h => h.lm
 | false =>
   have HN : Hid (lsM n L q = []) := by unfold lsM; rw [hly]; rfl
   have C := fun w h => l6Ok_any ao n cap S L q hn hL w h
   rw [hly] at C
   have HS : Hid (RgIn w ao n S L q) := hS
   clear hly hS hL
   go_enter Tryz.func7, Tryz.ntmps7
   go_wp2_with fail
   have HB0 : Below w.heap.size w (w.alloc (.cells #[] 53)) := (Below.refl _ _).alloc (Nat.le_refl _) _
   have N0 : SgOwn (w.alloc (.cells #[] 53)) w.heap.size (.slice (some ⟨w.heap.size, 0, none⟩) 0 0) (lsM n L q).length (sdX (lsM n L q)) := by
     rw [HN.out]
     exact SgOwn.ofL (M := []) (World.ownsRow_made w #[] 0 (Nat.le_refl _) (by decide) rfl)
   generalize (w.alloc (.cells #[] 53)) = W2 at *
   refine (C _ (HS.out.step HB0)).mono ?_
   rintro e w1 ⟨rfl, hB⟩
   replace N0 := N0.step hB
   replace HB0 := HB0.trans (hB.mono HB0.size)
   have HN0 : Hid _ := N0
   clear C hB N0
   go_wp2
   go_ret
   exact ⟨_, rfl, HN0.out, HB0⟩
def okD (s : Sd) : Prop := segOk s.1 s.2.1 s.2.2.1 s.2.2.2 = true
def qtE (s t : Sd) : Prop := okD s ∧ okD t ∧ qtP s.1 s.2.1 s.2.2.1 s.2.2.2 t.1 t.2.1 t.2.2.1 t.2.2.2
theorem qtE_symm {s t : Sd} (h : qtE s t) : qtE t s := ⟨h.2.1, h.1, (qt_either h.1 h.2.1).2 h.2.2⟩
theorem lyB_more {n : Nat} {L : Nat → Nat} {q : Nat → Ps} (h : lyB n L q = true) : sumR L n ≤ 20 ∧ (∀ i, i < n → rgF (L i) (q i) = 0) ∧ ∀ i, i < n → ∀ k, k < i → rmB (L i) (q i) (L k) (q k) = false := by
 have h0 : (lyF n L q).1 = 0 := of_decide_eq_true h
 unfold lyF at h0
 split at h0
 · cases h0
 · split at h0
   · cases h0
   · cases hf : firstP (fun i => decide (rgF (L i) (q i) ≠ 0)) n with
     | some j =>
       rw [hf] at h0
       have := rgF_in (L j) (q j)
       simp only at h0
       omega
     | none =>
       rw [hf] at h0
       simp only at h0
       refine ⟨by omega, fun i hi => ?_, fun i hi k hk => ?_⟩
       · unfold firstP at hf
         rw [List.find?_eq_none] at hf
         have := hf i (by simpa using hi)
         simpa only [decide_eq_true_eq, Decidable.not_not] using this
       · unfold mfV at h0
         cases hm : firstP (mtA L q) n with
         | some j =>
           rw [hm] at h0
           cases h0
         | none =>
           unfold firstP at hm
           rw [List.find?_eq_none] at hm
           have h1 := hm i (by simpa using hi)
           cases h2 : rmB (L i) (q i) (L k) (q k) with
           | false => rfl
           | true => exact absurd (mtA_true hk h2) h1
theorem sd_okD {n : Nat} {p : Ps} (h : RgOk n p) {i : Nat} (hi : i < n) : okD (sdA n p i) := side_ok h.ok h.one h.h3 hi
theorem rg_quiet {n : Nat} {p : Ps} (h : rgF n p = 0) {i k : Nat} (hi : i < n) (hk : k < i) : qtE (sdA n p i) (sdA n p k) := by
 have ho := rgF_ok h
 refine ⟨sd_okD ho hi, sd_okD ho (by omega), ?_⟩
 have hb : bdB n p i k = false := by
   unfold rgF at h
   repeat' split at h
   all_goals first | omega | skip
   rename_i h1 h2 h3 h4 h5
   exact Decidable.not_not.1 h5 i hi k hk
 unfold bdB at hb
 have hb := of_decide_eq_false hb
 have hk3 : kdA n p i k = 0 ∨ kdA n p i k = 1 ∨ kdA n p i k = 2 := knd_in _ _ _ _ _ _ _ _
 show kdA n p i k = 0 ∨ (kdA n p i k = 1 ∧ _)
 cases hx : nxB n i k with
 | false =>
   rw [hx] at hb
   simp only [Bool.false_eq_true, if_false] at hb
   omega
 | true =>
   rw [hx] at hb
   simp only [if_true] at hb
   have key : shP (sdA n p i).1 (sdA n p i).2.1 (sdA n p i).2.2.1 (sdA n p i).2.2.2 (sdA n p k).1 (sdA n p k).2.1 (sdA n p k).2.2.1 (sdA n p k).2.2.2 := by
     have e1 := sd_ends n p i
     have e2 := sd_ends n p k
     unfold nxB at hx
     simp only [Bool.or_eq_true, Bool.and_eq_true, decide_eq_true_eq] at hx
     unfold shP
     rcases hx with hx | ⟨hx, hy⟩
     · rw [show (k + 1) % n = i by rw [hx]; exact Nat.mod_eq_of_lt hi] at e2
       omega
     · subst hx
       rw [show (i + 1) % n = 0 by rw [hy]; exact Nat.mod_self n] at e1
       omega
   rcases hk3 with h3 | h3 | h3
   · exact .inl h3
   · exact .inr ⟨h3, key⟩
   · omega
theorem allS_mem {L : Nat → Nat} {q : Nat → Ps} : ∀ {c : Nat} {s : Sd}, s ∈ allS L q c → ∃ i j, i < c ∧ j < L i ∧ s = sdA (L i) (q i) j
 | 0, s, h => by simp [allS] at h
 | c + 1, s, h => by
   rw [allS_succ] at h
   rcases List.mem_append.1 h with h | h
   · obtain ⟨i, j, h1, h2, h3⟩ := allS_mem h
     exact ⟨i, j, by omega, h2, h3⟩
   · obtain ⟨x, _, hx⟩ := List.mem_map.1 h
     exact ⟨c, x.1, by omega, x.2, hx.symm⟩
theorem allS_len (L : Nat → Nat) (q : Nat → Ps) : ∀ c, (allS L q c).length = sumR L c
 | 0 => rfl
 | c + 1 => by
   rw [allS_succ, List.length_append, allS_len L q c, List.length_map, List.length_finRange]
   rfl
theorem allS_ok {n : Nat} {L : Nat → Nat} {q : Nat → Ps} (h : lyB n L q = true) {s : Sd} (hs : s ∈ allS L q n) : okD s := by
 obtain ⟨i, j, h1, h2, rfl⟩ := allS_mem hs
 exact sd_okD ((lyB_ok h).2 i h1) h2
theorem allS_quiet {n : Nat} {L : Nat → Nat} {q : Nat → Ps} (h : lyB n L q = true) : ∀ c, c ≤ n → (allS L q c).Pairwise qtE
 | 0, _ => List.Pairwise.nil
 | c + 1, hc => by
   obtain ⟨h1, h2, h3⟩ := lyB_more h
   rw [allS_succ]
   refine List.pairwise_append.2 ⟨allS_quiet h c (by omega), ?_, fun a ha b hb => ?_⟩
   · rw [List.pairwise_map]
     refine List.pairwise_iff_getElem.2 fun i j hi hj hij => ?_
     simp only [List.length_finRange] at hi hj
     refine qtE_symm ?_
     simpa using rg_quiet (h2 c (by omega)) hj hij
   · obtain ⟨i, j, hi, hj, rfl⟩ := allS_mem ha
     obtain ⟨x, _, rfl⟩ := List.mem_map.1 hb
     have hr := h3 c (by omega) i hi
     unfold rmB at hr
     have hr := Decidable.not_not.1 (of_decide_eq_false hr)
     exact qtE_symm ⟨sd_okD ((lyB_ok h).2 c (by omega)) x.2, sd_okD ((lyB_ok h).2 i (by omega)) hj, .inl (hr x.1 x.2 j hj)⟩
theorem sdX_comp {M : List Sd} {i : Nat} (hi : i < M.length) : sdX M (i * 4) = (M[i]).1 ∧ sdX M (i * 4 + 1) = (M[i]).2.1 ∧ sdX M (i * 4 + 2) = (M[i]).2.2.1 ∧ sdX M (i * 4 + 3) = (M[i]).2.2.2 := by
 have key : ∀ j, j < 4 → sdX M (i * 4 + j) = if j = 0 then (M[i]).1 else if j = 1 then (M[i]).2.1 else if j = 2 then (M[i]).2.2.1 else (M[i]).2.2.2 := fun j hj => by
   unfold sdX
   rw [show (i * 4 + j) / 4 = i by omega, show (i * 4 + j) % 4 = j by omega, List.getD_eq_getElem?_getD, List.getElem?_eq_getElem hi]
   rfl
 exact ⟨key 0 (by omega), key 1 (by omega), key 2 (by omega), key 3 (by omega)⟩
theorem lsM_quiet {n : Nat} {L : Nat → Nat} {q : Nat → Ps} (h : lyB n L q = true) : qtA (lsM n L q).length (sdX (lsM n L q)) := by
 unfold lsM
 rw [if_pos h]
 have hp : (allI (allS L q n)).Perm (allS L q n) := by
   have := fold_perm (allS L q n) []
   rwa [List.nil_append] at this
 have hq : (allI (allS L q n)).Pairwise qtE := (List.Perm.pairwise_iff (fun {x y} h => qtE_symm h) hp).2 (allS_quiet h n (Nat.le_refl _))
 have hl : (allI (allS L q n)).length ≤ 40 := by
   rw [allI_len, allS_len]
   have := (lyB_more h).1
   omega
 have ho : ∀ s ∈ allI (allS L q n), okD s := fun s hs => allS_ok h (hp.mem_iff.1 hs)
 generalize allI (allS L q n) = M at hq hl ho
 refine ⟨?_, fun i hi k hk => ?_⟩
 · unfold sgI
   rw [if_neg (by omega), if_pos fun i hi => ?_]
   obtain ⟨e1, e2, e3, e4⟩ := sdX_comp hi
   rw [e1, e2, e3, e4]
   exact ho _ (List.getElem_mem hi)
 · have hki : k < M.length := by omega
   obtain ⟨e1, e2, e3, e4⟩ := sdX_comp hi
   obtain ⟨f1, f2, f3, f4⟩ := sdX_comp hki
   unfold qtS
   rw [e1, e2, e3, e4, f1, f2, f3, f4]
   exact (qtE_symm (List.pairwise_iff_getElem.1 hq k i hki hi hk)).2.2
theorem sp_rowIn {w : World} {b m cap : Nat} {ao : Option Addr} {L : List Int} (h : SpRow w b (.slice ao m cap) m L) : SpIn w ao m (psOf L) ∧ m ≤ cap ∧ cap ≤ 9223372036854775807 := by
 have O2 := h.spots
 rcases O2.2 with ⟨e, h0⟩ | ⟨g', cap', cur, e, _, _, h4, h5, _⟩
 · cases e
   exact ⟨fun i hi => absurd hi (by omega), by omega, by omega⟩
 · cases e
   refine ⟨fun i hi => ?_, h4, by unfold maxLen at h5; omega⟩
   have B := ownG_blk O2
   refine ⟨g', 0, rfl, B.lt, ?_, ?_⟩
   · rw [Nat.zero_add, B.c (i * 2) (spL_at (by omega)), spW0]
   · rw [Nat.zero_add, B.c (i * 2 + 1) (spL_at (by omega)), spW1]
theorem LyRow.rings {W : World} {base : Nat} {v : Value} {c : Nat} (h : LyRow W base v c) : ∃ ao cap S L q, v = .slice ao c cap ∧ c ≤ cap ∧ cap ≤ 9223372036854775807 ∧ RgIn W ao c S L q ∧ ∀ i, i < c → L i ≤ 12 ∧ L i ≤ (S i).2 ∧ (S i).2 ≤ 9223372036854775807 := by
 obtain ⟨ss, ho, hs⟩ := h
 have hl : ss.length = c := by simpa using ho.1
 obtain ⟨ao, cap, rfl⟩ := ownG_slice ho
 have key : ∀ i : Nat, ∃ x : (Option Addr × Nat) × Nat × Ps, i < c → ss[i]? = some (.slice x.1.1 x.2.1 x.1.2) ∧ SpIn W x.1.1 x.2.1 x.2.2 ∧ x.2.1 ≤ 12 ∧ x.2.1 ≤ x.1.2 ∧ x.1.2 ≤ 9223372036854775807 := fun i => by
   by_cases hi : i < c
   · have hm : ss[i]'(by omega) ∈ ss := List.getElem_mem _
     obtain ⟨l, L, h1, h2⟩ := hs _ hm
     obtain ⟨lo, lc, e⟩ := ownG_slice h2
     rw [e] at h2
     obtain ⟨k1, k2, k3⟩ := sp_rowIn h2
     exact ⟨((lo, lc), l, psOf L), fun _ => ⟨by rw [List.getElem?_eq_getElem (by omega), e], k1, h1, k2, k3⟩⟩
   · exact ⟨((none, 0), 0, psOf []), fun h => absurd h hi⟩
 obtain ⟨f, hf⟩ := Classical.axiomOfChoice key
 rcases ho.2 with ⟨h1, h2⟩ | ⟨g, cap', cur, h1, h2, h3, h4, h5, h6, h7⟩
 · cases h1
   exact ⟨none, 0, fun i => (f i).1, fun i => (f i).2.1, fun i => (f i).2.2, rfl, by omega, by omega, fun i hi => by omega, fun i hi => by omega⟩
 · cases h1
   refine ⟨some ⟨g, 0, none⟩, cap, fun i => (f i).1, fun i => (f i).2.1, fun i => (f i).2.2, rfl, h4, by unfold maxLen at h5; exact h5, fun i hi => ?_, fun i hi => (hf i hi).2.2⟩
   obtain ⟨k1, k2, _⟩ := hf i hi
   refine ⟨g, 0, rfl, (ho.lt g rfl).2, ?_, k2⟩
   have h9 := ho.cells rfl i _ k1
   rw [Addr.add_lit] at h9
   exact h9
theorem bigq_any (ao : Option Addr) (n cap : Nat) (w : World) (z : Bool) (hz : decide (1048576 < n) = z) : Calls Tryz.prog 15 #[.slice ao n cap] w (BoolP z w) := by
 subst hz
 go_enter Tryz.func15, Tryz.ntmps15
 go_wp2
 go_ret
 exact ⟨by simp; try omega, Below.refl _ _⟩
theorem LyRow.mono {W : World} {b b' : Nat} {v : Value} {c : Nat} (h : LyRow W b' v c) (hb : b ≤ b') : LyRow W b v c := by
 obtain ⟨ss, h1, h2⟩ := h
 exact ⟨ss, ownG_mono h1 hb, fun s hs => by
   obtain ⟨l, L, h3, h4⟩ := h2 s hs
   exact ⟨l, L, h3, ownG_mono h4 hb⟩⟩
def DlP (w : World) (e : Ending) (w' : World) : Prop := ∃ v c, e = .returned v ∧ c ≤ 3 ∧ LyRow w' w.heap.size v c ∧ Below w.heap.size w w'
def DsP (w : World) (e : Ending) (w' : World) : Prop := ∃ ao c cap x, e = .returned (.slice ao c cap) ∧ SegIn w' ao c x ∧ Below w.heap.size w w'
set_option maxRecDepth 100000 in
set_option maxHeartbeats 4000000 in
theorem drawLayerSegs_any (ao : Option Addr) (n cap : Nat) (cs : List Int) (w : World) (h : Code w ao n cs) : Calls Tryz.prog 17 #[.slice ao n cap] w (DlP w) := by
 go_enter Tryz.func17, Tryz.ntmps17
 go_wp2_with fail
 refine (open_any ao n cap cs _ h).mono ?_
 rintro e w1 ⟨G, rfl, hG, R, HB⟩
 clear h
 go_wp2_with fail
 refine (layer_any G ao n cap cs _ R).mono ?_
 rintro e w2 ⟨v, c, rfl, hc, O, R2, K⟩
 have HBF : Below w.heap.size w w2 := HB.trans (K.below hG HB.size)
 have HO : Hid (LyRow w2 w.heap.size v c) := O.mono HB.size
 clear R R2 K HB O
 go_wp2
 go_ret
 exact ⟨_, c, rfl, hc, HO.out, HBF⟩
set_option maxRecDepth 100000 in
set_option maxHeartbeats 4000000 in
theorem drawQuiet_any (ao : Option Addr) (n cap : Nat) (cs : List Int) (w : World) (h : Code w ao n cs) : Calls Tryz.prog 16 #[.slice ao n cap] w (DsP w) := by
 go_enter Tryz.func16, Tryz.ntmps16
 go_wp2_with fail
 refine (open_any ao n cap cs _ h).mono ?_
 rintro e w1 ⟨G, rfl, hG, R, HB⟩
 clear h
 go_wp2_with fail
 refine (once_any 2 (by decide) (by decide) G ao n cap cs _ R).mono ?_
 rintro e w2 ⟨_, rfl, ⟨b, rfl⟩, R1, K1⟩
 replace HB := HB.trans (K1.below hG HB.size)
 clear R K1
 cases b with
 | true =>
   go_wp2_with fail
   refine (layer_any G ao n cap cs _ R1).mono ?_
   rintro e w3 ⟨v, c, rfl, hc, O, R2, K⟩
   replace HB := HB.trans (K.below hG HB.size)
   obtain ⟨lo, lc, S, L, q, rfl, h1, h2, hR, hL⟩ := O.rings
   clear R1 R2 K O
   go_wp2_with fail
   refine (specLayerSegs_all lo c lc S L q (by omega) (fun i hi => by have := (hL i hi).1; omega) _ hR).mono ?_
   rintro e w4 ⟨v4, rfl, N4, hB⟩
   have HBF := HB.trans (hB.mono HB.size)
   obtain ⟨ao4, cap4, rfl, hI⟩ := N4.in
   have HI : Hid (SegIn w4 ao4 (lsM c L q).length (sdX (lsM c L q))) := hI
   clear hR hB HB N4 hI hL
   go_wp2
   go_ret
   exact ⟨_, _, _, _, rfl, HI.out, HBF⟩
 | false =>
   go_wp2_with fail
   refine (segs4_any G ao n cap cs _ R1).mono ?_
   rintro e w3 ⟨v, c, L, rfl, hc, O, R2, K⟩
   have HBF := HB.trans (K.below hG HB.size)
   obtain ⟨ao4, cap4, hv, hI⟩ := O.in
   subst hv
   have HI : Hid (SegIn w3 ao4 c (fun i => L.getD i 0)) := hI
   clear R1 R2 K O HB hI
   go_wp2
   go_ret
   exact ⟨_, _, _, _, rfl, HI.out, HBF⟩
set_option maxRecDepth 100000 in
set_option maxHeartbeats 8000000 in
theorem lawQuietly_any (ao : Option Addr) (n cap : Nat) (cs : List Int) (w : World) (h : n ≤ 1048576 → Code w ao n cs) : Calls Tryz.prog 4 #[.slice ao n cap] w (BoolP true w) := by
 by_cases hn : 1048576 < n
 · go_enter Tryz.func4, Tryz.ntmps4
   go_wp2_with fail
   refine (bigq_any ao n cap _ true (by simpa using hn)).mono ?_
   rintro e w1 ⟨rfl, hB⟩
   clear h
   go_wp2
   go_ret
   exact ⟨rfl, hB⟩
 · have hc := h (by omega)
   clear h
   go_enter Tryz.func4, Tryz.ntmps4
   go_wp2_with fail
   refine (bigq_any ao n cap _ false (by simpa using hn)).mono ?_
   rintro e w1 ⟨rfl, HB⟩
   replace hc := hc.below HB
   go_wp2_with fail
   refine (drawQuiet_any ao n cap cs _ hc).mono ?_
   rintro e w2 ⟨so, sn, sc, x, rfl, hS, hB⟩
   replace HB := HB.trans (hB.mono HB.size)
   replace hc := hc.below hB
   clear hB
   go_wp2_with fail
   refine (drawLayerSegs_any ao n cap cs _ hc).mono ?_
   rintro e w3 ⟨v, c, rfl, hc3, O, hB⟩
   replace HB := HB.trans (hB.mono HB.size)
   replace hS := hS.step hB
   obtain ⟨lo, lc, S, L, q, rfl, h1, h2, hR, hL⟩ := O.rings
   clear hB hc O
   have CF := fun w h => implLayerFault_any lo c lc S L q (by omega) h1 h2 (fun i hi => by have := (hL i hi).1; omega) (fun i hi => (hL i hi).2) w h
   have CL := fun w h => implLayerSegs_all lo c lc S L q (by omega) h1 h2 (fun i hi => by have := (hL i hi).1; omega) (fun i hi => (hL i hi).2) w h
   have HQ : Hid (lyB c L q = true → qtA (lsM c L q).length (sdX (lsM c L q))) := fun h => lsM_quiet h
   have HF : Hid (lyB c L q = true ↔ (lyF c L q).1 = 0) := decide_eq_true_iff
   obtain ⟨r, hr⟩ : ∃ r : Bool, r = true ↔ qtA sn x := ⟨@decide (qtA sn x) (Classical.propDecidable _), by simp⟩
   have CI := fun w h => implQuiet_any so sn sc x r hr w h
   have CS := fun w h => specQuiet_any so sn sc x r hr w h
   clear hr hL
   unfold TwoL at CF
   unfold LmP at CL
   obtain ⟨o, ho⟩ : ∃ o, lyF c L q = o := ⟨_, rfl⟩
   rw [ho] at CF HF
   obtain ⟨o1, o2⟩ := o
   simp only at CF HF
   clear ho
   obtain ⟨m, hm⟩ : ∃ m, (lsM c L q).length = m := ⟨_, rfl⟩
   obtain ⟨y, hy⟩ : ∃ y, sdX (lsM c L q) = y := ⟨_, rfl⟩
   rw [hm, hy] at CL HQ
   clear hm hy
   go_wp2_with fail
   refine (CF _ hR).mono ?_
   rintro e w4 ⟨rfl, hB⟩
   replace HB := HB.trans (hB.mono HB.size)
   replace hS := hS.step hB
   replace hR := hR.step hB
   clear hB CF
   have er : (r == r) = true := by simp
   go_wp2_with fail
   refine (CI _ hS).mono ?_
   rintro e w5 ⟨rfl, hB⟩
   replace HB := HB.trans (hB.mono HB.size)
   replace hS := hS.step hB
   replace hR := hR.step hB
   clear hB CI
   go_wp2_with fail
   refine (CS _ hS).mono ?_
   rintro e w6 ⟨rfl, hB⟩
   replace HB := HB.trans (hB.mono HB.size)
   replace hR := hR.step hB
   clear hB CS hS
   by_cases h0 : o1 = 0
   · have hq := HQ.out (HF.out.2 h0)
     subst h0
     go_wp2_with fail
     refine (CL _ hR).mono ?_
     rintro e w7 ⟨v7, rfl, N7, hB⟩
     replace HB := HB.trans (hB.mono HB.size)
     obtain ⟨ao7, cap7, rfl, hI⟩ := N7.in
     have CQ := fun w h => implQuiet_any ao7 m cap7 y true (by simpa using hq) w h
     clear hB CL N7 hR hq
     go_wp2_with fail
     refine (CQ _ hI).mono ?_
     rintro e w8 ⟨rfl, hB⟩
     replace HB := HB.trans (hB.mono HB.size)
     clear hB CQ hI
     go_wp2
     go_ret
     exact ⟨rfl, HB⟩
   · have hne : (o1 != 0) = true := by simpa using h0
     clear h0 hR CL
     go_wp2
     go_ret
     exact ⟨rfl, HB⟩
open Go.ChangeShapes Go.WideShapes Go.ChangeAt Go.RowKit Go.Joins
theorem jn_laid : laidOutB Tryz.pinned.checked.prog = true := by kernel_rfl
theorem jn_maps : mapsRowed Tryz.pinned.checked.prog = true := by kernel_rfl
theorem jn_enter : Tryz.pinned.checked.prog.mayEnter = true := by kernel_rfl
theorem jn_heard : Tryz.pinned.checked.prog.stopsHeard = true := by kernel_rfl
end Go.Proofs.YteakhlipmmfilaaGreat
