/- Part 3 of the walks that the proof leans on. -/
import Derived.Test.YthelolpogdcmhaaPart2
import Derived.Maps.AppendAt
namespace Go.Proofs.Ythelolpogdcmhaa
open Go.RowKit
def VqdE (A oa n ca B2 ob m cb c : Nat) (x y : Int) (_B : Nat) : Nat → Value → World → Prop
 | 0, v, _ => v = .slice (some ⟨A, oa, none⟩) n ca
 | 1, v, _ => v = .int .i64 (c : Int)
 | 2, v, _ => v = .pointer (some ⟨A, oa + c, none⟩)
 | 3, v, _ => v = .int .i64 x
 | 4, v, _ => v = .slice (some ⟨B2, ob, none⟩) m cb
 | 5, v, _ => v = .int .i64 (c : Int)
 | 6, v, _ => v = .pointer (some ⟨B2, ob + c, none⟩)
 | 7, v, _ => v = .int .i64 y
 | 8, v, _ => v = .bool (decide (¬ (x = y)))
 | _, _, _ => True
set_option maxRecDepth 100000 in
set_option maxHeartbeats 4000000 in
theorem qdE {Q : Exit → Act → World → Prop} {A oa n ca B2 ob m cb c : Nat} {x y : Int}  {w0 : World} {a0 : Act} {idq : Nat} {t0 t1 t2 t3 t4 t5 t6 t7 t8 : TypeId} {q0 q1 q2 q3 q4 q5 q6 q7 q8 : String}
   (hcn : c < n) (hcm : c < m) (hn : n ≤ 1048576) (h0 : a0.tmps[0]? = some (.slice (some ⟨A, oa, none⟩) n ca)) (h1 : a0.tmps[1]? = some (.slice (some ⟨B2, ob, none⟩) m cb)) (h5 : a0.tmps[5]? = some (.int .i64 (c : Int))) (k0 : w0.cell? ⟨A, oa + c, none⟩ = some (.int .i64 x)) (l0 : (⟨A, oa + c, none⟩ : Addr).block < w0.heap.size) (k1 : w0.cell? ⟨B2, ob + c, none⟩ = some (.int .i64 y)) (l1 : (⟨B2, ob + c, none⟩ : Addr).block < w0.heap.size) (hz : a0.tmps.size = 26)
   (hQ : ∀ aq W, aq.tmps.size = a0.tmps.size → aq.defers = a0.defers → (∀ e, e ∉ ([16, 17, 18, 19, 20, 21, 22, 23, 24] : List Nat) → aq.tmps[e]? = a0.tmps[e]?) → VqdE A oa n ca B2 ob m cb c x y w0.heap.size 8 (aq.tmps.getD 24 undef) W → Below w0.heap.size w0 W → Q .normal aq W) :
   (Code.region idq #[{ dst := some 16, op := Op.move (Operand.tmp 0), type := t0, pos := q0, after := #[], guard := none },
   { dst := some 17, op := Op.move (Operand.tmp 5), type := t1, pos := q1, after := #[], guard := none },
   { dst := some 18, op := Op.indexAddr 29 (Operand.tmp 16) (Operand.tmp 17), type := t2, pos := q2, after := #[{ on := 0, ground := Ground.data }, { on := 1, ground := Ground.data }], guard := none },
   { dst := some 19, op := Op.load 2 (Operand.tmp 18), type := t3, pos := q3, after := #[{ on := 2, ground := Ground.data }], guard := none },
   { dst := some 20, op := Op.move (Operand.tmp 1), type := t4, pos := q4, after := #[], guard := none },
   { dst := some 21, op := Op.move (Operand.tmp 5), type := t5, pos := q5, after := #[], guard := none },
   { dst := some 22, op := Op.indexAddr 29 (Operand.tmp 20) (Operand.tmp 21), type := t6, pos := q6, after := #[{ on := 4, ground := Ground.data }, { on := 5, ground := Ground.data }], guard := none },
   { dst := some 23, op := Op.load 2 (Operand.tmp 22), type := t7, pos := q7, after := #[{ on := 6, ground := Ground.data }], guard := none },
   { dst := some 24, op := Op.binOp BinOp.neq 2 (Operand.tmp 19) (Operand.tmp 23) 2, type := t8, pos := q8, after := #[{ on := 3, ground := Ground.data }, { on := 7, ground := Ground.data }], guard := none }] true).wp Try.prog Q a0 w0 := by
 have hS : distS [some 16, some 17, some 18, some 19, some 20, some 21, some 22, some 23, some 24] = true := rfl
 refine wp_region_q (by kernel_rfl) w0.heap.size [some 16, some 17, some 18, some 19, some 20, some 21, some 22, some 23, some 24] (VqdE A oa n ca B2 ob m cb c x y w0.heap.size) rfl ?_ ?_
 · intro Q lq aq W iq oq hJ hl ho hall
   have hJ2 := hJ
   obtain ⟨z1, z2, z3, z4, z5, z6, z7⟩ := hJ
   have g0 : aq.tmps.getD 0 undef = .slice (some ⟨A, oa, none⟩) n ca := by rw [Array.getD_eq_getD_getElem?, z4 0 (by decide), h0]; rfl
   have g1 : aq.tmps.getD 1 undef = .slice (some ⟨B2, ob, none⟩) m cb := by rw [Array.getD_eq_getD_getElem?, z4 1 (by decide), h1]; rfl
   have g5 : aq.tmps.getD 5 undef = .int .i64 (c : Int) := by rw [Array.getD_eq_getD_getElem?, z4 5 (by decide), h5]; rfl
   have c0 : W.cell? ⟨A, oa + c, none⟩ = some (.int .i64 x) := (z5.cell l0).trans k0
   have c1 : W.cell? ⟨B2, ob + c, none⟩ = some (.int .i64 y) := (z5.cell l1).trans k1
   match iq, ho with
   | 0, ho =>
     cases ho
     refine wpOp_of rfl rfl ?_
     have hK := fun (v : Value) (W2 : World) hW hT hv => hJ2.put hS 0 16 rfl (by omega) (W' := W2) hW hT v hv
     clear ho hall hl hQ
     generalize InvQ _ _ _ w0 a0 (lq.setIfInBounds 0 true) = K at hK ⊢
     clear hJ2 hS z1 z2 z3 z4 z6 z7
     go_simp
     exact hK _ _ z5 (fun _ _ h => h) rfl
   | 1, ho =>
     cases ho
     refine wpOp_of rfl rfl ?_
     have hK := fun (v : Value) (W2 : World) hW hT hv => hJ2.put hS 1 17 rfl (by omega) (W' := W2) hW hT v hv
     clear ho hall hl hQ
     generalize InvQ _ _ _ w0 a0 (lq.setIfInBounds 1 true) = K at hK ⊢
     clear hJ2 hS z1 z2 z3 z4 z6 z7
     go_simp
     exact hK _ _ z5 (fun _ _ h => h) rfl
   | 2, ho =>
     cases ho
     refine wpOp_of rfl rfl ?_
     have f0 : (aq.tmps.getD 16 undef) = .slice (some ⟨A, oa, none⟩) n ca := z6 0 16 (hall { on := 0, ground := Ground.data } (by simp) rfl) rfl
     have f1 : (aq.tmps.getD 17 undef) = .int .i64 (c : Int) := z6 1 17 (hall { on := 1, ground := Ground.data } (by simp) rfl) rfl
     have hcI : (c : Int) < n := by omega
     have hcM : (c : Int) < m := by omega
     have hnI : (n : Int) ≤ 1048576 := by omega
     have hK := fun (v : Value) (W2 : World) hW hT hv => hJ2.put hS 2 18 rfl (by omega) (W' := W2) hW hT v hv
     clear ho hall hl hQ
     generalize InvQ _ _ _ w0 a0 (lq.setIfInBounds 2 true) = K at hK ⊢
     clear hJ2 hS z1 z2 z3 z4 z6 z7
     go_simp
     exact hK _ _ z5 (fun _ _ h => h) rfl
   | 3, ho =>
     cases ho
     refine wpOp_of rfl rfl ?_
     have f2 : (aq.tmps.getD 18 undef) = .pointer (some ⟨A, oa + c, none⟩) := z6 2 18 (hall { on := 2, ground := Ground.data } (by simp) rfl) rfl
     have hK := fun (v : Value) (W2 : World) hW hT hv => hJ2.put hS 3 19 rfl (by omega) (W' := W2) hW hT v hv
     clear ho hall hl hQ
     generalize InvQ _ _ _ w0 a0 (lq.setIfInBounds 3 true) = K at hK ⊢
     clear hJ2 hS z1 z2 z3 z4 z6 z7
     go_simp
     exact hK _ _ z5 (fun _ _ h => h) rfl
   | 4, ho =>
     cases ho
     refine wpOp_of rfl rfl ?_
     have hK := fun (v : Value) (W2 : World) hW hT hv => hJ2.put hS 4 20 rfl (by omega) (W' := W2) hW hT v hv
     clear ho hall hl hQ
     generalize InvQ _ _ _ w0 a0 (lq.setIfInBounds 4 true) = K at hK ⊢
     clear hJ2 hS z1 z2 z3 z4 z6 z7
     go_simp
     exact hK _ _ z5 (fun _ _ h => h) rfl
   | 5, ho =>
     cases ho
     refine wpOp_of rfl rfl ?_
     have hK := fun (v : Value) (W2 : World) hW hT hv => hJ2.put hS 5 21 rfl (by omega) (W' := W2) hW hT v hv
     clear ho hall hl hQ
     generalize InvQ _ _ _ w0 a0 (lq.setIfInBounds 5 true) = K at hK ⊢
     clear hJ2 hS z1 z2 z3 z4 z6 z7
     go_simp
     exact hK _ _ z5 (fun _ _ h => h) rfl
   | 6, ho =>
     cases ho
     refine wpOp_of rfl rfl ?_
     have f4 : (aq.tmps.getD 20 undef) = .slice (some ⟨B2, ob, none⟩) m cb := z6 4 20 (hall { on := 4, ground := Ground.data } (by simp) rfl) rfl
     have f5 : (aq.tmps.getD 21 undef) = .int .i64 (c : Int) := z6 5 21 (hall { on := 5, ground := Ground.data } (by simp) rfl) rfl
     have hcI : (c : Int) < n := by omega
     have hcM : (c : Int) < m := by omega
     have hnI : (n : Int) ≤ 1048576 := by omega
     have hK := fun (v : Value) (W2 : World) hW hT hv => hJ2.put hS 6 22 rfl (by omega) (W' := W2) hW hT v hv
     clear ho hall hl hQ
     generalize InvQ _ _ _ w0 a0 (lq.setIfInBounds 6 true) = K at hK ⊢
     clear hJ2 hS z1 z2 z3 z4 z6 z7
     go_simp
     exact hK _ _ z5 (fun _ _ h => h) rfl
   | 7, ho =>
     cases ho
     refine wpOp_of rfl rfl ?_
     have f6 : (aq.tmps.getD 22 undef) = .pointer (some ⟨B2, ob + c, none⟩) := z6 6 22 (hall { on := 6, ground := Ground.data } (by simp) rfl) rfl
     have hK := fun (v : Value) (W2 : World) hW hT hv => hJ2.put hS 7 23 rfl (by omega) (W' := W2) hW hT v hv
     clear ho hall hl hQ
     generalize InvQ _ _ _ w0 a0 (lq.setIfInBounds 7 true) = K at hK ⊢
     clear hJ2 hS z1 z2 z3 z4 z6 z7
     go_simp
     exact hK _ _ z5 (fun _ _ h => h) rfl
   | 8, ho =>
     cases ho
     refine wpOp_of rfl rfl ?_
     have f3 : (aq.tmps.getD 19 undef) = .int .i64 x := z6 3 19 (hall { on := 3, ground := Ground.data } (by simp) rfl) rfl
     have f7 : (aq.tmps.getD 23 undef) = .int .i64 y := z6 7 23 (hall { on := 7, ground := Ground.data } (by simp) rfl) rfl
     have hK := fun (v : Value) (W2 : World) hW hT hv => hJ2.put hS 8 24 rfl (by omega) (W' := W2) hW hT v hv
     clear ho hall hl hQ
     generalize InvQ _ _ _ w0 a0 (lq.setIfInBounds 8 true) = K at hK ⊢
     clear hJ2 hS z1 z2 z3 z4 z6 z7
     go_simp
     exact hK _ _ z5 (fun _ _ h => h) (by show Value.bool _ = Value.bool _; congr 1; rw [Bool.eq_iff_iff]; simp)
   | iq + 9, ho => simp at ho
 · intro lq aq W hJ hr
   obtain ⟨z1, z2, z3, z4, z5, z6, z7⟩ := hJ
   have hl := listed_of hr [0, 1, 2, 3, 4, 5, 6, 7, 8] [] (by simp) (by kernel_rfl) (by rw [z1]; decide)
   exact hQ aq W z2 z3 (fun e he => z4 e (by simpa using he)) (z6 8 24 (hl 8 (by simp)) rfl) z5
set_option maxRecDepth 100000 in
set_option maxHeartbeats 4000000 in
theorem equalNo_any (ao bo : Option Addr) (n ca m cb : Nat) (e f : Nat → Int) (hn : n ≤ 1048576) (w : World) (hA : NoIn w ao n e) (hC : NoIn w bo m f) : Calls Try.prog 61 #[.slice ao n ca, .slice bo m cb] w (VP (.bool (decide (n = m ∧ ∀ i, i < n → e i = f i))) w) := by
 obtain ⟨R, hR⟩ : ∃ R, decide (n = m ∧ ∀ i, i < n → e i = f i) = R := ⟨_, rfl⟩
 rw [hR]
 have HR : Hid (decide (n = m ∧ ∀ i, i < n → e i = f i) = R) := hR
 clear hR
 by_cases hnm : n = m
 · subst hnm
   have HA : Hid (NoIn w ao n e) := hA
   have HC : Hid (NoIn w bo n f) := hC
   clear hA hC
   have hnI : (n : Int) ≤ 1048576 := by omega
   go_enter Try.func61, Try.ntmps61
   go_wp2_with fail
   go_loopw [13] (fun i wr => ∃ c : Nat, c ≤ n ∧ i = .int .i64 c ∧ (∀ j, j < c → e j = f j) ∧ Below w.heap.size w wr) (fun i _ => n - (intOf i).toNat)
   case atStart => exact ⟨0, by omega, rfl, fun j hj => absurd hj (by omega), Below.refl _ _⟩
   case round =>
     obtain ⟨c, hc, rfl, hall, HB⟩ := hrel
     have HP : Hid (∀ j, j < c → e j = f j) := hall
     clear hall
     by_cases hcn : c < n
     · have hcI : (c : Int) < n := by omega
       obtain ⟨A, oa, rfl, hA, q0⟩ := HA.out.step HB c hcn
       obtain ⟨A2, ob, rfl, hA2, q1⟩ := HC.out.step HB c hcn
       go_upto_region 6 with fail
       refine qdE (A := A) (oa := oa) (n := n) (ca := ca) (B2 := A2) (ob := ob) (m := n) (cb := cb) (c := c) (x := e c) (y := f c) hcn hcn hn rfl rfl rfl q0 hA q1 hA2 rfl ?_
       rintro ⟨tm, df⟩ Wz hz hdf hoff hx hBz
       simp only at hz hdf hoff hx
       change tm.getD 24 undef = .bool (decide (¬ (e c = f c))) at hx
       subst hdf
       have htm := tmps_fold [16, 17, 18, 19, 20, 21, 22, 23, 24] tm _ hz hoff
       simp only [List.foldl, List.setIfInBounds_toArray, List.set_cons_zero, List.set_cons_succ, hx] at htm
       clear hz hoff
       generalize tm.getD 16 undef = u0, tm.getD 17 undef = u1, tm.getD 18 undef = u2, tm.getD 19 undef = u3, tm.getD 20 undef = u4, tm.getD 21 undef = u5, tm.getD 22 undef = u6, tm.getD 23 undef = u7 at htm
       clear hx
       subst htm
       replace HB := HB.trans (hBz.mono HB.size)
       clear hBz q0 q1
       by_cases hef : e c = f c
       · have HQ : Hid (e c = f c) := hef
         rw [decide_eq_false (fun h => h hef)]
         clear hef
         go_wp2
         go_roundw
         case rel => exact ⟨c + 1, by omega, by go_num, fun j hj => by
           rcases Nat.lt_or_ge j c with h | h
           · exact HP.out j h
           · obtain rfl : j = c := by omega
             exact HQ.out, HB⟩
         case measure => simp [intOf]; omega
       · have HO : Hid (R = false) := HR.out.symm.trans (decide_eq_false (fun h => hef (h.2 c hcn)))
         rw [decide_eq_true hef]
         clear hef HP HA HC HR
         go_wp2
         go_ret
         exact ⟨by rw [HO.out]; rfl, HB⟩
     · obtain rfl : c = n := by omega
       have HO : Hid (R = true) := HR.out.symm.trans (decide_eq_true ⟨trivial, HP.out⟩)
       clear HP HA HC HR
       go_wp2
       go_ret
       exact ⟨by rw [HO.out]; rfl, HB⟩
 · have HO : Hid (R = false) := HR.out.symm.trans (decide_eq_false (fun h => hnm h.1))
   have hnm2 : ¬ ((n : Int) = (m : Int)) := by omega
   clear hA hC hnm HR
   go_enter Try.func61, Try.ntmps61
   go_wp2
   go_ret
   exact ⟨by rw [HO.out]; rfl, Below.refl _ _⟩
theorem itCs_at (Q : QD) : ∀ (l : List Nat) (j i k : Nat), l[j]? = some i → k < 5 → (itCs Q l)[j * 5 + k]? = (it5 Q i)[k]?
 | [], j, i, k, h, _ => by simp at h
 | a :: l, 0, i, k, h, hk => by
   simp at h
   subst h
   show ((it5 Q a) ++ itCs Q l)[0 * 5 + k]? = _
   rw [Nat.zero_mul, Nat.zero_add, List.getElem?_append_left (by show k < 5; exact hk)]
 | a :: l, j + 1, i, k, h, hk => by
   have h' : l[j]? = some i := by simpa using h
   show ((it5 Q a) ++ itCs Q l)[(j + 1) * 5 + k]? = _
   rw [List.getElem?_append_right (by show 5 ≤ _; omega), show (j + 1) * 5 + k - (it5 Q a).length = j * 5 + k by show (j + 1) * 5 + k - 5 = _; omega]
   exact itCs_at Q l j i k h' hk
theorem ItIn.of {Q : QD} {w : World} {base : Nat} {v : Value} {l : List Nat} (h : w.ownsRow base 56 5 v l.length (itCs Q l)) : ∃ ao cap, v = .slice ao l.length cap ∧ ItIn Q w ao l := by
 rcases h.2 with ⟨h1, h2⟩ | ⟨g, cap, cur, h1, h2, h3, h4⟩
 · refine ⟨none, 0, by rw [h1, h2], fun j i hj => ?_⟩
   rw [List.length_eq_zero_iff.1 h2] at hj
   simp at hj
 · refine ⟨some ⟨g, 0, none⟩, cap, h1, fun j i hj => ?_⟩
   have cl : ∀ k v, k < 5 → (it5 Q i)[k]? = some v → w.cell? ⟨g, 0 + j * 5 + k, none⟩ = some v := fun k v hk hv => by
     have h5 := h.cells (g := g) (by rw [h1]; rfl) (j * 5 + k) v (by rw [itCs_at Q l j i k hj hk]; exact hv)
     rwa [Addr.add_lit, ← Nat.add_assoc] at h5
   exact ⟨g, 0, rfl, (Array.getElem?_eq_some_iff.1 h3).1, cl 0 _ (by decide) rfl, cl 1 _ (by decide) rfl, cl 2 _ (by decide) rfl, cl 3 _ (by decide) rfl, cl 4 _ (by decide) rfl⟩
def idV (Q : QD) (l : List Nat) : List Value := l.map fun i => Value.int .i64 (Q.I i)
theorem one_cellQ (x : Int) : ∀ u ∈ [Value.int .i64 x], u.oneCell' = true := by
 intro u hu
 simp only [List.mem_singleton] at hu
 subst hu
 rfl
theorem one_newQ (w : World) (x : Int) (t : TypeId) : ∀ j v, [Value.int .i64 x][j]? = some v → (w.alloc (.cells #[.int .i64 x] t)).cell? ((⟨w.heap.size, 0, none⟩ : Addr).add j) = some v := by
 intro j v hj
 rw [Addr.add_lit, Nat.zero_add]
 exact (Blk.new w [.int .i64 x] t rfl).c j hj
theorem info_noQ : ∃ i0, Try.prog.info? 2 = some i0 ∧ i0.zero = some (.int .i64 0) ∧ i0.size = 1 ∧ i0.bytes = 8 := by
 obtain ⟨i, hi, hz⟩ := Option.map_eq_some_iff.1 Try.infoNo
 simp only [Prod.mk.injEq] at hz
 exact ⟨i, hi, hz.1, hz.2.1, hz.2.2⟩
set_option maxRecDepth 100000 in
set_option maxHeartbeats 4000000 in
theorem idsOf_any (Q : QD) (ao : Option Addr) (cap : Nat) (l : List Nat) (hl : l.length ≤ 1048576) (w : World) (hS : ItIn Q w ao l) : Calls Try.prog 79 #[.slice ao l.length cap] w (fun r w' => ∃ v, r = .returned v ∧ w'.ownsRow w.heap.size 2 1 v l.length (idV Q l) ∧ Below w.heap.size w w') := by
 obtain ⟨i0, hi, hz0, hz1, hz2⟩ := info_noQ
 have HS : Hid (ItIn Q w ao l) := hS
 clear hS
 obtain ⟨n, hn⟩ : ∃ n, l.length = n := ⟨_, rfl⟩
 rw [hn] at hl ⊢
 have hnI : (n : Int) ≤ 1048576 := by omega
 go_enter Try.func79, Try.ntmps79
 go_wp2_with fail
 go_loopw [3, 8] (fun o i wr => ∃ c : Nat, c ≤ n ∧ i = .int .i64 c ∧ wr.ownsRow w.heap.size 2 1 o c (idV Q (l.take c)) ∧ Below w.heap.size w wr) (fun _ i _ => n - (intOf i).toNat)
 case atStart => exact ⟨0, by omega, rfl, World.ownsRow_nil _ _ _ _, Below.refl _ _⟩
 case round =>
   obtain ⟨c, hc, rfl, HO, HB⟩ := hrel
   by_cases hcn : c < n
   · obtain ⟨i, hi2⟩ : ∃ i, l[c]? = some i := ⟨_, List.getElem?_eq_getElem (by omega)⟩
     obtain ⟨A, off, rfl, hA, q0, q1, q2, q3, q4⟩ := HS.out.step HB c i hi2
     have hcI : (c : Int) < n := by omega
     have hB1 := (Below.refl wr.heap.size wr).alloc (Nat.le_refl _) (.cells #[.int .i64 (Q.I i), .int .i64 (Q.S i).1, .int .i64 (Q.S i).2.1, .int .i64 (Q.S i).2.2.1, .int .i64 (Q.S i).2.2.2] 56)
     have B1 : Blk (wr.alloc (.cells #[.int .i64 (Q.I i), .int .i64 (Q.S i).1, .int .i64 (Q.S i).2.1, .int .i64 (Q.S i).2.2.1, .int .i64 (Q.S i).2.2.2] 56)) wr.heap.size [.int .i64 (Q.I i), .int .i64 (Q.S i).1, .int .i64 (Q.S i).2.1, .int .i64 (Q.S i).2.2.1, .int .i64 (Q.S i).2.2.2] := Blk.new wr [.int .i64 (Q.I i), .int .i64 (Q.S i).1, .int .i64 (Q.S i).2.1, .int .i64 (Q.S i).2.2.1, .int .i64 (Q.S i).2.2.2] 56 rfl
     have HFM : idV Q (l.take (c + 1)) = idV Q (l.take c) ++ [.int .i64 (Q.I i)] := by unfold idV; rw [List.take_add_one, hi2]; simp
     go_upto_region 5 with fail
     replace HO := ownA_step HO hB1
     replace HB := HB.trans (hB1.mono HB.size)
     clear hB1 q0 q1 q2 q3 q4
     generalize (wr.alloc (.cells #[.int .i64 (Q.I i), .int .i64 (Q.S i).1, .int .i64 (Q.S i).2.1, .int .i64 (Q.S i).2.2.1, .int .i64 (Q.S i).2.2.2] 56)) = W5 at *
     have m0 := B1.c 0 rfl
     go_wp2_with (at_builtin; refine wpList_append_own _ rfl _ _ 29 rfl w.heap.size 2 i0 (.int .i64 0) 1 8 Try.underlying29 hi hz0 hz1 hz2 rfl (by decide) _ _ _ rfl (ownA_step HO ((Below.refl _ _).alloc (Nat.le_refl _) _)) ⟨W5.heap.size, 0, none⟩ 1 1 [.int .i64 (Q.I i)] rfl rfl (one_newQ _ _ _) (one_cellQ _) (by unfold maxLen; omega) (by omega) (by have := HB.size; simp; omega) ?_)
     intro v1 w2 hown1 hgrow1 _
     have HBN : Below w.heap.size w w2 := (HB.alloc HB.size _).grown hgrow1 (by have := HB.size; simp; omega) (fun k hk => (HO.lt k hk).1)
     rw [← HFM] at hown1
     clear HO HB hgrow1 m0 B1
     go_wp2
     go_roundw
     case rel => exact ⟨c + 1, by omega, by go_num, hown1, HBN⟩
     case measure => simp [intOf]; omega
   · obtain rfl : c = n := by omega
     rw [List.take_of_length_le (by omega)] at HO
     go_wp2
     go_ret
     exact ⟨_, rfl, HO, HB⟩
theorem NoIn.ofQ {Q : QD} {w : World} {base : Nat} {v : Value} {l : List Nat} (h : w.ownsRow base 2 1 v l.length (idV Q l)) : ∃ ao cap, v = .slice ao l.length cap ∧ NoIn w ao l.length (fun j => (idL Q l).getD j 0) := by
 rcases h.2 with ⟨h1, h2⟩ | ⟨g, cap, cur, h1, h2, h3, h4⟩
 · exact ⟨none, 0, by rw [h1, h2], fun j hj => absurd hj (by omega)⟩
 · refine ⟨some ⟨g, 0, none⟩, cap, h1, fun j hj => ⟨g, 0, rfl, (Array.getElem?_eq_some_iff.1 h3).1, ?_⟩⟩
   have h5 := h.cells (g := g) (by rw [h1]; rfl) j (.int .i64 ((idL Q l).getD j 0)) (by simp [idV, idL, hj])
   rwa [Addr.add_lit] at h5
theorem leaf_eq (Q : QD) (at_ : Nat) (x y s : Int) : decide (Q.L at_ = (flQ Q (List.range Q.m) x y s).length ∧ ∀ i, i < Q.L at_ → Q.E at_ i = (idL Q (flQ Q (List.range Q.m) x y s)).getD i 0) = leafB Q at_ x y s := by
 unfold leafB
 refine decide_eq_decide.2 ⟨fun h => ?_, fun h => ?_⟩
 · apply List.ext_getElem?
   intro k
   by_cases hk : k < Q.L at_
   · have := h.2 k hk
     have hk2 : k < (flQ Q (List.range Q.m) x y s).length := by omega
     simp [blL, idL, hk, hk2] at this ⊢
     exact this
   · rw [List.getElem?_eq_none (by simp [blL]; omega), List.getElem?_eq_none (by simp [idL]; omega)]
 · have hl : Q.L at_ = (flQ Q (List.range Q.m) x y s).length := by have := congrArg List.length h; simpa [blL, idL] using this
   refine ⟨hl, fun i hi => ?_⟩
   have := congrArg (fun t => t.getD i 0) h
   simpa [blL, hi] using this
theorem Blk.grown {W W2 : World} {g : Nat} {vs : List Value} {row : Option Nat} (h : Blk W g vs) (hg : W.grownBy W2 row) (hne : some g ≠ row) : Blk W2 g vs :=
 ⟨Nat.lt_of_lt_of_le h.lt hg.size, fun i _ hi => ⟨(World.cell?_of_block (w := W) (a := ⟨g, i, none⟩) (hg.block g h.lt hne)).trans (h.c i hi), (World.frozen?_of_block (w := W) (a := ⟨g, i, none⟩) (hg.block g h.lt hne)).trans (h.f i hi)⟩⟩
theorem grown_set {w w' : World} (hB : Below w.heap.size w w') {g : Nat} (j : Nat) (u : Value) : w.grownBy (w'.setCell ⟨g, j, none⟩ u) (some g) :=
 ⟨hB.os, hB.tape, hB.output, Nat.le_trans hB.size (by simp [World.setCell]), fun k hk hne => by
   rw [heap_setCell_other _ _ _ _ (fun e => hne (congrArg some e))]
   exact hB.block k hk⟩
def IdR (Q : QD) (b : Nat) (w : World) (v : Value) (l : List Nat) : Prop := ∃ ao cap, v = .slice ao l.length cap ∧ NoIn w ao l.length (fun j => (idL Q l).getD j 0) ∧ (ao = none → cap = 0) ∧ ∀ A o sp, ao = some ⟨A, o, sp⟩ → b ≤ A ∧ A < w.heap.size
set_option maxRecDepth 100000 in
set_option maxHeartbeats 4000000 in
theorem fill_any (Q : QD) (g : Nat) (x y s lv : Int) (ids kids : Value) (ao : Option Addr) (cap : Nat) (l : List Nat) (hq : Sq x y s) (h6 : Its6 Q l) (hl : l.length ≤ 1048576) (w : World) (B0 : BkB w g x y s lv ids kids) (hS : ItIn Q w ao l) : Calls Try.prog 60 #[.pointer (some ⟨g, 0, none⟩), .slice ao l.length cap] w (fun r w' => r = .returned (.tuple #[]) ∧ ∃ v, BkB w' g x y s lv v kids ∧ IdR Q w.heap.size w' v (flQ Q l x y s) ∧ w'.ownsRow w.heap.size 2 1 v (flQ Q l x y s).length (idV Q (flQ Q l x y s)) ∧ w.grownBy w' (some g)) := by
 have MT := meeting_any Q g x y s lv ids kids ao cap l hq h6 hl w B0 hS
 have hfl : (flQ Q l x y s).length ≤ 1048576 := Nat.le_trans (List.length_filter_le _ _) hl
 have hg := B0.lt
 go_enter Try.func60, Try.ntmps60
 go_wp2_with fail
 refine MT.mono ?_
 rintro r w1 ⟨v, rfl, HO, hB1⟩
 replace B0 := B0.step hB1
 clear MT hS
 obtain ⟨ao1, c1, rfl, hI⟩ := ItIn.of HO
 clear HO
 have ID := idsOf_any Q ao1 c1 _ hfl w1 hI
 go_wp2_with fail
 refine ID.mono ?_
 rintro r w2 ⟨v2, rfl, HO2, hB2⟩
 replace B0 := B0.step hB2
 have HB := hB1.trans (hB2.mono hB1.size)
 have hs1 := hB1.size
 clear ID hI hB1 hB2
 obtain ⟨ao2, c2, rfl, hN⟩ := NoIn.ofQ HO2
 have y4 := B0.c 4 rfl; have f4 := B0.f 4 rfl
 have BF := B0.setI 4 (by simp) (.slice ao2 (flQ Q l x y s).length c2)
 have GF := grown_set HB (g := g) 4 (.slice ao2 (flQ Q l x y s).length c2)
 have HNF : NoIn (w2.setCell ⟨g, 4, none⟩ (.slice ao2 (flQ Q l x y s).length c2)) ao2 (flQ Q l x y s).length (fun j => (idL Q (flQ Q l x y s)).getD j 0) := fun j hj => by
   obtain ⟨A, off, e, hA, hc⟩ := hN j hj
   refine ⟨A, off, e, Nat.lt_of_lt_of_le hA (by simp [World.setCell]), ?_⟩
   have hne : A ≠ g := by
     intro e2
     subst e2
     subst e
     have h3 := (HO2.lt A rfl).1
     have h4 := HB.size
     have h5 : w.heap.size ≤ w1.heap.size := hs1
     omega
   rw [← hc]
   exact World.cell?_of_block (w := w2) (a := ⟨A, off + j, none⟩) (heap_setCell_other _ _ _ _ hne)
 have hz0 : ao2 = none → c2 = 0 := fun e => by
   subst e
   rcases HO2.2 with ⟨h1, _⟩ | ⟨g2, cap2, cur, h1, _⟩
   · exact (Value.slice.inj h1).2.2
   · cases h1
 have hlt2 : ∀ A o sp, ao2 = some ⟨A, o, sp⟩ → w.heap.size ≤ A ∧ A < (w2.setCell ⟨g, 4, none⟩ (.slice ao2 (flQ Q l x y s).length c2)).heap.size := fun A o sp e => by
   have h3 := HO2.lt A (by rw [e]; rfl)
   have h5 : w.heap.size ≤ w1.heap.size := hs1
   have h6 : (w2.setCell ⟨g, 4, none⟩ (.slice ao2 (flQ Q l x y s).length c2)).heap.size = w2.heap.size := by simp [World.setCell]
   omega
 have HOF : (w2.setCell ⟨g, 4, none⟩ (.slice ao2 (flQ Q l x y s).length c2)).ownsRow w.heap.size 2 1 (.slice ao2 (flQ Q l x y s).length c2) (flQ Q l x y s).length (idV Q (flQ Q l x y s)) := by
   have hlow := HO2.lt
   have h5 : w.heap.size ≤ w1.heap.size := hs1
   have HO3 : w2.ownsRow w.heap.size 2 1 (.slice ao2 (flQ Q l x y s).length c2) (flQ Q l x y s).length (idV Q (flQ Q l x y s)) := by
     rcases HO2 with ⟨k0, k1 | ⟨k2, k3, k4, k5, k6, k7⟩⟩
     · exact ⟨k0, .inl k1⟩
     · exact ⟨k0, .inr ⟨k2, k3, k4, k5, Nat.le_trans h5 k6, k7⟩⟩
   rcases HO3 with ⟨k0, k1 | ⟨k2, k3, k4, k5, k6, k7, k8⟩⟩
   · exact ⟨k0, .inl k1⟩
   · refine ⟨k0, .inr ⟨k2, k3, k4, k5, k6, ?_, k8⟩⟩
     rw [← k7]
     exact heap_setCell_other _ _ _ _ (by show k2 ≠ g; have := hlow k2 (by rw [k5]; rfl); omega)
 clear HO2 hN HB B0
 go_wp2
 go_end0
 exact ⟨rfl, _, BF, ⟨_, _, rfl, HNF, hz0, hlt2⟩, HOF, GF⟩
def VqdN (g : Nat) (x y u r : Int) (Wd : World) (_B : Nat) : Nat → Value → World → Prop
 | 0, v, _ => v = .pointer (some ⟨g, 0, none⟩)
 | 1, v, _ => v = .pointer (some ⟨g, 0, none⟩)
 | 2, v, _ => v = .pointer (some ⟨g, 0, none⟩)
 | 3, v, _ => v = .pointer (some ⟨g, 0, none⟩)
 | 4, v, _ => v = .int .i64 x
 | 5, v, _ => v = .int .i64 r
 | 6, v, _ => v = .int .i64 (x + r)
 | 7, v, _ => v = .pointer (some ⟨g, 0, none⟩)
 | 8, v, _ => v = .pointer (some ⟨g, 0, none⟩)
 | 9, v, _ => v = .pointer (some ⟨g, 0, none⟩)
 | 10, v, _ => v = .pointer (some ⟨g, 1, none⟩)
 | 11, v, _ => v = .int .i64 y
 | 12, v, _ => v = .int .i64 u
 | 13, v, _ => v = .int .i64 (y + u)
 | 14, v, _ => v = .agg #[.int .i64 (x + r), .int .i64 (y + u)]
 | 15, v, _ => v = .pointer (some ⟨Wd.heap.size, 0, none⟩)
 | _, _, _ => True
theorem VqdN.same {g : Nat} {x y u r : Int} {Wd : World} {B j : Nat} {v : Value} {W W2 : World} (h : VqdN g x y u r Wd B j v W) : VqdN g x y u r Wd B j v W2 := by
 unfold VqdN at *
 split <;> simp only at h <;> first | exact h | trivial
def SqdN (_g : Nat) (x y u r : Int) (Wd : World) (lz : Array Bool) (_az : Act) (W : World) : Prop := (lz.getD 15 false = false → W = Wd) ∧ (lz.getD 15 false = true → lz.getD 16 false = false → W = (Wd.alloc (.cells #[.int .i64 0, .int .i64 0] 37))) ∧ (lz.getD 16 false = true → W = (((Wd.alloc (.cells #[.int .i64 0, .int .i64 0] 37)).setCell ⟨Wd.heap.size, 0, none⟩ (.int .i64 (x + r))).setCell ⟨Wd.heap.size, 1, none⟩ (.int .i64 (y + u)))) ∧ (lz.getD 16 false = true → lz.getD 15 false = true)
def JqdN (g : Nat) (x y u r : Int) (Wd : World) (w0 : World) (a0 : Act) (lz : Array Bool) (az : Act) (W : World) : Prop := InvQ (w0.heap.size) [some 29, some 30, some 31, some 32, some 33, some 34, some 35, some 36, some 37, some 38, some 39, some 40, some 41, some 42, some 43, some 9, none] (VqdN g x y u r Wd (w0.heap.size)) w0 a0 lz az W ∧ SqdN g x y u r Wd lz az W
set_option maxRecDepth 100000 in
set_option maxHeartbeats 4000000 in
theorem qdN {Q : Exit → Act → World → Prop} {g : Nat} {x y u r : Int} {Wd : World}  {w0 : World} {a0 : Act} {idq : Nat} {t0 t1 t2 t3 t4 t5 t6 t7 t8 t9 t10 t11 t12 t13 t14 t15 t16 : TypeId} {q0 q1 q2 q3 q4 q5 q6 q7 q8 q9 q10 q11 q12 q13 q14 q15 q16 : String}
   (hx1 : -1048576 ≤ x) (hx2 : x ≤ 1048576) (hy1 : -1048576 ≤ y) (hy2 : y ≤ 1048576) (hr1 : 0 ≤ r) (hr2 : r ≤ 2097152) (hu1 : 0 ≤ u) (hu2 : u ≤ 2097152) (hWd : w0.heap.size ≤ Wd.heap.size) (hWe : Wd = w0.drew) (h0 : a0.tmps[0]? = some (.pointer (some ⟨g, 0, none⟩))) (h6 : a0.tmps[6]? = some (.int .i64 u)) (h8 : a0.tmps[8]? = some (.int .i64 r)) (k0 : w0.cell? ⟨g, 0, none⟩ = some (.int .i64 x)) (l0 : (⟨g, 0, none⟩ : Addr).block < w0.heap.size) (k1 : w0.cell? ⟨g, 1, none⟩ = some (.int .i64 y)) (l1 : (⟨g, 1, none⟩ : Addr).block < w0.heap.size) (hz : a0.tmps.size = 59)
   (hQ : ∀ aq W, aq.tmps.size = a0.tmps.size → aq.defers = a0.defers → (∀ e, e ∉ ([29, 30, 31, 32, 33, 34, 35, 36, 37, 38, 39, 40, 41, 42, 43, 9] : List Nat) → aq.tmps[e]? = a0.tmps[e]?) → VqdN g x y u r Wd (w0.heap.size) 15 (aq.tmps.getD 9 undef) W → VqdN g x y u r Wd (w0.heap.size) 16 undef W → Below (w0.heap.size) w0 W → (W = (((Wd.alloc (.cells #[.int .i64 0, .int .i64 0] 37)).setCell ⟨Wd.heap.size, 0, none⟩ (.int .i64 (x + r))).setCell ⟨Wd.heap.size, 1, none⟩ (.int .i64 (y + u)))) → Q .normal aq W) :
   (Code.region idq #[{ dst := some 29, op := Op.move (Operand.tmp 0), type := t0, pos := q0, after := #[], guard := none },
   { dst := some 30, op := Op.nilCheck (Operand.tmp 29), type := t1, pos := q1, after := #[{ on := 0, ground := Ground.data }], guard := none },
   { dst := some 31, op := Op.fieldAddr 99 (Operand.tmp 30) 0, type := t2, pos := q2, after := #[{ on := 1, ground := Ground.data }], guard := none },
   { dst := some 32, op := Op.fieldAddr 37 (Operand.tmp 31) 0, type := t3, pos := q3, after := #[{ on := 2, ground := Ground.data }], guard := none },
   { dst := some 33, op := Op.load 2 (Operand.tmp 32), type := t4, pos := q4, after := #[{ on := 3, ground := Ground.data }], guard := none },
   { dst := some 34, op := Op.move (Operand.tmp 8), type := t5, pos := q5, after := #[], guard := none },
   { dst := some 35, op := Op.binOp BinOp.add 2 (Operand.tmp 33) (Operand.tmp 34) 2, type := t6, pos := q6, after := #[{ on := 4, ground := Ground.data }, { on := 5, ground := Ground.data }], guard := none },
   { dst := some 36, op := Op.move (Operand.tmp 0), type := t7, pos := q7, after := #[], guard := none },
   { dst := some 37, op := Op.nilCheck (Operand.tmp 36), type := t8, pos := q8, after := #[{ on := 7, ground := Ground.data }], guard := none },
   { dst := some 38, op := Op.fieldAddr 99 (Operand.tmp 37) 0, type := t9, pos := q9, after := #[{ on := 8, ground := Ground.data }], guard := none },
   { dst := some 39, op := Op.fieldAddr 37 (Operand.tmp 38) 1, type := t10, pos := q10, after := #[{ on := 9, ground := Ground.data }], guard := none },
   { dst := some 40, op := Op.load 2 (Operand.tmp 39), type := t11, pos := q11, after := #[{ on := 10, ground := Ground.data }], guard := none },
   { dst := some 41, op := Op.move (Operand.tmp 6), type := t12, pos := q12, after := #[], guard := none },
   { dst := some 42, op := Op.binOp BinOp.add 2 (Operand.tmp 40) (Operand.tmp 41) 2, type := t13, pos := q13, after := #[{ on := 11, ground := Ground.data }, { on := 12, ground := Ground.data }], guard := none },
   { dst := some 43, op := Op.build 37 #[(0, Operand.tmp 35), (1, Operand.tmp 42)], type := t14, pos := q14, after := #[{ on := 6, ground := Ground.data }, { on := 13, ground := Ground.data }], guard := none },
   { dst := some 9, op := Op.alloc 37, type := t15, pos := q15, after := #[], guard := none },
   { dst := none, op := Op.store 37 (Operand.tmp 9) (Operand.tmp 43), type := t16, pos := q16, after := #[{ on := 15, ground := Ground.data }, { on := 14, ground := Ground.data }, { on := 0, ground := Ground.phase }, { on := 1, ground := Ground.phase }, { on := 2, ground := Ground.phase }, { on := 3, ground := Ground.phase }, { on := 4, ground := Ground.phase }, { on := 5, ground := Ground.phase }, { on := 6, ground := Ground.phase }, { on := 7, ground := Ground.phase }, { on := 8, ground := Ground.phase }, { on := 9, ground := Ground.phase }, { on := 10, ground := Ground.phase }, { on := 11, ground := Ground.phase }, { on := 12, ground := Ground.phase }, { on := 13, ground := Ground.phase }, { on := 14, ground := Ground.phase }, { on := 15, ground := Ground.phase }], guard := none }] true).wp Try.prog Q a0 w0 := by
 have hS : distS [some 29, some 30, some 31, some 32, some 33, some 34, some 35, some 36, some 37, some 38, some 39, some 40, some 41, some 42, some 43, some 9, none] = true := rfl
 refine wp_region_inv (by kernel_rfl) (JqdN g x y u r Wd w0 a0) ⟨⟨rfl, rfl, rfl, fun _ _ => rfl, (Below.refl _ w0).drew, fun j d hj => ?_, fun j hj => ?_⟩, ⟨fun _ => hWe.symm, (fun h => by rw [replD] at h; cases h), (fun h => by rw [replD] at h; cases h), (fun h => by rw [replD] at h; cases h)⟩⟩ ?_ ?_
 · exfalso
   rw [Array.getD_eq_getD_getElem?, Array.getElem?_replicate] at hj
   split at hj <;> simp at hj
 · exfalso
   rw [Array.getD_eq_getD_getElem?, Array.getElem?_replicate] at hj
   split at hj <;> simp at hj
 · intro lq aq W iq oq ⟨hJ, hs⟩ hl ho hall
   have hJ2 := hJ
   obtain ⟨z1, z2, z3, z4, z5, z6, z7⟩ := hJ
   have g0 : aq.tmps.getD 0 undef = .pointer (some ⟨g, 0, none⟩) := by rw [Array.getD_eq_getD_getElem?, z4 0 (by decide), h0]; rfl
   have g6 : aq.tmps.getD 6 undef = .int .i64 u := by rw [Array.getD_eq_getD_getElem?, z4 6 (by decide), h6]; rfl
   have g8 : aq.tmps.getD 8 undef = .int .i64 r := by rw [Array.getD_eq_getD_getElem?, z4 8 (by decide), h8]; rfl
   have c0 : W.cell? ⟨g, 0, none⟩ = some (.int .i64 x) := (z5.cell l0).trans k0
   have c1 : W.cell? ⟨g, 1, none⟩ = some (.int .i64 y) := (z5.cell l1).trans k1
   match iq, ho with
   | 0, ho =>
     cases ho
     refine wpOp_of rfl rfl ?_
     have hq : ∀ v : Value, SqdN g x y u r Wd (lq.setIfInBounds 0 true) (aq.put (some 29) v) W := fun v => ⟨by rw [getD_set_neq (i := 0) (j := 15) (by decide)]; exact hs.1, by rw [getD_set_neq (i := 0) (j := 15) (by decide), getD_set_neq (i := 0) (j := 16) (by decide)]; exact hs.2.1, by rw [getD_set_neq (i := 0) (j := 16) (by decide)]; exact hs.2.2.1, by rw [getD_set_neq (i := 0) (j := 15) (by decide), getD_set_neq (i := 0) (j := 16) (by decide)]; exact hs.2.2.2⟩
     have hK := fun (v : Value) (W2 : World) hW hT hv (hs : SqdN g x y u r Wd (lq.setIfInBounds 0 true) (aq.put (some 29) v) W2) => show (JqdN g x y u r Wd w0 a0) (lq.setIfInBounds 0 true) (aq.put (some 29) v) W2 from ⟨hJ2.put hS 0 29 rfl (by omega) (W' := W2) hW hT v hv, hs⟩
     clear ho hall hl hQ
     generalize (JqdN g x y u r Wd w0 a0) (lq.setIfInBounds 0 true) = K at hK ⊢
     clear hJ2 hS z1 z2 z3 z4 z6 z7
     go_simp
     exact hK _ _ z5 (fun _ _ h => h) rfl (hq _)
   | 1, ho =>
     cases ho
     refine wpOp_of rfl rfl ?_
     have f0 : (aq.tmps.getD 29 undef) = .pointer (some ⟨g, 0, none⟩) := z6 0 29 (hall { on := 0, ground := Ground.data } (by simp) rfl) rfl
     have hq : ∀ v : Value, SqdN g x y u r Wd (lq.setIfInBounds 1 true) (aq.put (some 30) v) W := fun v => ⟨by rw [getD_set_neq (i := 1) (j := 15) (by decide)]; exact hs.1, by rw [getD_set_neq (i := 1) (j := 15) (by decide), getD_set_neq (i := 1) (j := 16) (by decide)]; exact hs.2.1, by rw [getD_set_neq (i := 1) (j := 16) (by decide)]; exact hs.2.2.1, by rw [getD_set_neq (i := 1) (j := 15) (by decide), getD_set_neq (i := 1) (j := 16) (by decide)]; exact hs.2.2.2⟩
     have hK := fun (v : Value) (W2 : World) hW hT hv (hs : SqdN g x y u r Wd (lq.setIfInBounds 1 true) (aq.put (some 30) v) W2) => show (JqdN g x y u r Wd w0 a0) (lq.setIfInBounds 1 true) (aq.put (some 30) v) W2 from ⟨hJ2.put hS 1 30 rfl (by omega) (W' := W2) hW hT v hv, hs⟩
     clear ho hall hl hQ
     generalize (JqdN g x y u r Wd w0 a0) (lq.setIfInBounds 1 true) = K at hK ⊢
     clear hJ2 hS z1 z2 z3 z4 z6 z7
     go_simp
     exact hK _ _ z5 (fun _ _ h => h) rfl (hq _)
   | 2, ho =>
     cases ho
     refine wpOp_of rfl rfl ?_
     have f1 : (aq.tmps.getD 30 undef) = .pointer (some ⟨g, 0, none⟩) := z6 1 30 (hall { on := 1, ground := Ground.data } (by simp) rfl) rfl
     have hq : ∀ v : Value, SqdN g x y u r Wd (lq.setIfInBounds 2 true) (aq.put (some 31) v) W := fun v => ⟨by rw [getD_set_neq (i := 2) (j := 15) (by decide)]; exact hs.1, by rw [getD_set_neq (i := 2) (j := 15) (by decide), getD_set_neq (i := 2) (j := 16) (by decide)]; exact hs.2.1, by rw [getD_set_neq (i := 2) (j := 16) (by decide)]; exact hs.2.2.1, by rw [getD_set_neq (i := 2) (j := 15) (by decide), getD_set_neq (i := 2) (j := 16) (by decide)]; exact hs.2.2.2⟩
     have hK := fun (v : Value) (W2 : World) hW hT hv (hs : SqdN g x y u r Wd (lq.setIfInBounds 2 true) (aq.put (some 31) v) W2) => show (JqdN g x y u r Wd w0 a0) (lq.setIfInBounds 2 true) (aq.put (some 31) v) W2 from ⟨hJ2.put hS 2 31 rfl (by omega) (W' := W2) hW hT v hv, hs⟩
     clear ho hall hl hQ
     generalize (JqdN g x y u r Wd w0 a0) (lq.setIfInBounds 2 true) = K at hK ⊢
     clear hJ2 hS z1 z2 z3 z4 z6 z7
     go_simp
     exact hK _ _ z5 (fun _ _ h => h) rfl (hq _)
   | 3, ho =>
     cases ho
     refine wpOp_of rfl rfl ?_
     have f2 : (aq.tmps.getD 31 undef) = .pointer (some ⟨g, 0, none⟩) := z6 2 31 (hall { on := 2, ground := Ground.data } (by simp) rfl) rfl
     have hq : ∀ v : Value, SqdN g x y u r Wd (lq.setIfInBounds 3 true) (aq.put (some 32) v) W := fun v => ⟨by rw [getD_set_neq (i := 3) (j := 15) (by decide)]; exact hs.1, by rw [getD_set_neq (i := 3) (j := 15) (by decide), getD_set_neq (i := 3) (j := 16) (by decide)]; exact hs.2.1, by rw [getD_set_neq (i := 3) (j := 16) (by decide)]; exact hs.2.2.1, by rw [getD_set_neq (i := 3) (j := 15) (by decide), getD_set_neq (i := 3) (j := 16) (by decide)]; exact hs.2.2.2⟩
     have hK := fun (v : Value) (W2 : World) hW hT hv (hs : SqdN g x y u r Wd (lq.setIfInBounds 3 true) (aq.put (some 32) v) W2) => show (JqdN g x y u r Wd w0 a0) (lq.setIfInBounds 3 true) (aq.put (some 32) v) W2 from ⟨hJ2.put hS 3 32 rfl (by omega) (W' := W2) hW hT v hv, hs⟩
     clear ho hall hl hQ
     generalize (JqdN g x y u r Wd w0 a0) (lq.setIfInBounds 3 true) = K at hK ⊢
     clear hJ2 hS z1 z2 z3 z4 z6 z7
     go_simp
     exact hK _ _ z5 (fun _ _ h => h) rfl (hq _)
   | 4, ho =>
     cases ho
     refine wpOp_of rfl rfl ?_
     have f3 : (aq.tmps.getD 32 undef) = .pointer (some ⟨g, 0, none⟩) := z6 3 32 (hall { on := 3, ground := Ground.data } (by simp) rfl) rfl
     have hq : ∀ v : Value, SqdN g x y u r Wd (lq.setIfInBounds 4 true) (aq.put (some 33) v) W := fun v => ⟨by rw [getD_set_neq (i := 4) (j := 15) (by decide)]; exact hs.1, by rw [getD_set_neq (i := 4) (j := 15) (by decide), getD_set_neq (i := 4) (j := 16) (by decide)]; exact hs.2.1, by rw [getD_set_neq (i := 4) (j := 16) (by decide)]; exact hs.2.2.1, by rw [getD_set_neq (i := 4) (j := 15) (by decide), getD_set_neq (i := 4) (j := 16) (by decide)]; exact hs.2.2.2⟩
     have hK := fun (v : Value) (W2 : World) hW hT hv (hs : SqdN g x y u r Wd (lq.setIfInBounds 4 true) (aq.put (some 33) v) W2) => show (JqdN g x y u r Wd w0 a0) (lq.setIfInBounds 4 true) (aq.put (some 33) v) W2 from ⟨hJ2.put hS 4 33 rfl (by omega) (W' := W2) hW hT v hv, hs⟩
     clear ho hall hl hQ
     generalize (JqdN g x y u r Wd w0 a0) (lq.setIfInBounds 4 true) = K at hK ⊢
     clear hJ2 hS z1 z2 z3 z4 z6 z7
     go_simp
     exact hK _ _ z5 (fun _ _ h => h) rfl (hq _)
   | 5, ho =>
     cases ho
     refine wpOp_of rfl rfl ?_
     have hq : ∀ v : Value, SqdN g x y u r Wd (lq.setIfInBounds 5 true) (aq.put (some 34) v) W := fun v => ⟨by rw [getD_set_neq (i := 5) (j := 15) (by decide)]; exact hs.1, by rw [getD_set_neq (i := 5) (j := 15) (by decide), getD_set_neq (i := 5) (j := 16) (by decide)]; exact hs.2.1, by rw [getD_set_neq (i := 5) (j := 16) (by decide)]; exact hs.2.2.1, by rw [getD_set_neq (i := 5) (j := 15) (by decide), getD_set_neq (i := 5) (j := 16) (by decide)]; exact hs.2.2.2⟩
     have hK := fun (v : Value) (W2 : World) hW hT hv (hs : SqdN g x y u r Wd (lq.setIfInBounds 5 true) (aq.put (some 34) v) W2) => show (JqdN g x y u r Wd w0 a0) (lq.setIfInBounds 5 true) (aq.put (some 34) v) W2 from ⟨hJ2.put hS 5 34 rfl (by omega) (W' := W2) hW hT v hv, hs⟩
     clear ho hall hl hQ
     generalize (JqdN g x y u r Wd w0 a0) (lq.setIfInBounds 5 true) = K at hK ⊢
     clear hJ2 hS z1 z2 z3 z4 z6 z7
     go_simp
     exact hK _ _ z5 (fun _ _ h => h) rfl (hq _)
   | 6, ho =>
     cases ho
     refine wpOp_of rfl rfl ?_
     have f4 : (aq.tmps.getD 33 undef) = .int .i64 x := z6 4 33 (hall { on := 4, ground := Ground.data } (by simp) rfl) rfl
     have f5 : (aq.tmps.getD 34 undef) = .int .i64 r := z6 5 34 (hall { on := 5, ground := Ground.data } (by simp) rfl) rfl
     have hq : ∀ v : Value, SqdN g x y u r Wd (lq.setIfInBounds 6 true) (aq.put (some 35) v) W := fun v => ⟨by rw [getD_set_neq (i := 6) (j := 15) (by decide)]; exact hs.1, by rw [getD_set_neq (i := 6) (j := 15) (by decide), getD_set_neq (i := 6) (j := 16) (by decide)]; exact hs.2.1, by rw [getD_set_neq (i := 6) (j := 16) (by decide)]; exact hs.2.2.1, by rw [getD_set_neq (i := 6) (j := 15) (by decide), getD_set_neq (i := 6) (j := 16) (by decide)]; exact hs.2.2.2⟩
     have hw : IntKind.i64.wrap (x + r) = x + r := by rw [IntKind.wrap_i64]; omega
     have hK := fun (v : Value) (W2 : World) hW hT hv (hs : SqdN g x y u r Wd (lq.setIfInBounds 6 true) (aq.put (some 35) v) W2) => show (JqdN g x y u r Wd w0 a0) (lq.setIfInBounds 6 true) (aq.put (some 35) v) W2 from ⟨hJ2.put hS 6 35 rfl (by omega) (W' := W2) hW hT v hv, hs⟩
     clear ho hall hl hQ
     generalize (JqdN g x y u r Wd w0 a0) (lq.setIfInBounds 6 true) = K at hK ⊢
     clear hJ2 hS z1 z2 z3 z4 z6 z7
     go_simp
     exact hK _ _ z5 (fun _ _ h => h) rfl (hq _)
   | 7, ho =>
     cases ho
     refine wpOp_of rfl rfl ?_
     have hq : ∀ v : Value, SqdN g x y u r Wd (lq.setIfInBounds 7 true) (aq.put (some 36) v) W := fun v => ⟨by rw [getD_set_neq (i := 7) (j := 15) (by decide)]; exact hs.1, by rw [getD_set_neq (i := 7) (j := 15) (by decide), getD_set_neq (i := 7) (j := 16) (by decide)]; exact hs.2.1, by rw [getD_set_neq (i := 7) (j := 16) (by decide)]; exact hs.2.2.1, by rw [getD_set_neq (i := 7) (j := 15) (by decide), getD_set_neq (i := 7) (j := 16) (by decide)]; exact hs.2.2.2⟩
     have hK := fun (v : Value) (W2 : World) hW hT hv (hs : SqdN g x y u r Wd (lq.setIfInBounds 7 true) (aq.put (some 36) v) W2) => show (JqdN g x y u r Wd w0 a0) (lq.setIfInBounds 7 true) (aq.put (some 36) v) W2 from ⟨hJ2.put hS 7 36 rfl (by omega) (W' := W2) hW hT v hv, hs⟩
     clear ho hall hl hQ
     generalize (JqdN g x y u r Wd w0 a0) (lq.setIfInBounds 7 true) = K at hK ⊢
     clear hJ2 hS z1 z2 z3 z4 z6 z7
     go_simp
     exact hK _ _ z5 (fun _ _ h => h) rfl (hq _)
   | 8, ho =>
     cases ho
     refine wpOp_of rfl rfl ?_
     have f7 : (aq.tmps.getD 36 undef) = .pointer (some ⟨g, 0, none⟩) := z6 7 36 (hall { on := 7, ground := Ground.data } (by simp) rfl) rfl
     have hq : ∀ v : Value, SqdN g x y u r Wd (lq.setIfInBounds 8 true) (aq.put (some 37) v) W := fun v => ⟨by rw [getD_set_neq (i := 8) (j := 15) (by decide)]; exact hs.1, by rw [getD_set_neq (i := 8) (j := 15) (by decide), getD_set_neq (i := 8) (j := 16) (by decide)]; exact hs.2.1, by rw [getD_set_neq (i := 8) (j := 16) (by decide)]; exact hs.2.2.1, by rw [getD_set_neq (i := 8) (j := 15) (by decide), getD_set_neq (i := 8) (j := 16) (by decide)]; exact hs.2.2.2⟩
     have hK := fun (v : Value) (W2 : World) hW hT hv (hs : SqdN g x y u r Wd (lq.setIfInBounds 8 true) (aq.put (some 37) v) W2) => show (JqdN g x y u r Wd w0 a0) (lq.setIfInBounds 8 true) (aq.put (some 37) v) W2 from ⟨hJ2.put hS 8 37 rfl (by omega) (W' := W2) hW hT v hv, hs⟩
     clear ho hall hl hQ
     generalize (JqdN g x y u r Wd w0 a0) (lq.setIfInBounds 8 true) = K at hK ⊢
     clear hJ2 hS z1 z2 z3 z4 z6 z7
     go_simp
     exact hK _ _ z5 (fun _ _ h => h) rfl (hq _)
   | 9, ho =>
     cases ho
     refine wpOp_of rfl rfl ?_
     have f8 : (aq.tmps.getD 37 undef) = .pointer (some ⟨g, 0, none⟩) := z6 8 37 (hall { on := 8, ground := Ground.data } (by simp) rfl) rfl
     have hq : ∀ v : Value, SqdN g x y u r Wd (lq.setIfInBounds 9 true) (aq.put (some 38) v) W := fun v => ⟨by rw [getD_set_neq (i := 9) (j := 15) (by decide)]; exact hs.1, by rw [getD_set_neq (i := 9) (j := 15) (by decide), getD_set_neq (i := 9) (j := 16) (by decide)]; exact hs.2.1, by rw [getD_set_neq (i := 9) (j := 16) (by decide)]; exact hs.2.2.1, by rw [getD_set_neq (i := 9) (j := 15) (by decide), getD_set_neq (i := 9) (j := 16) (by decide)]; exact hs.2.2.2⟩
     have hK := fun (v : Value) (W2 : World) hW hT hv (hs : SqdN g x y u r Wd (lq.setIfInBounds 9 true) (aq.put (some 38) v) W2) => show (JqdN g x y u r Wd w0 a0) (lq.setIfInBounds 9 true) (aq.put (some 38) v) W2 from ⟨hJ2.put hS 9 38 rfl (by omega) (W' := W2) hW hT v hv, hs⟩
     clear ho hall hl hQ
     generalize (JqdN g x y u r Wd w0 a0) (lq.setIfInBounds 9 true) = K at hK ⊢
     clear hJ2 hS z1 z2 z3 z4 z6 z7
     go_simp
     exact hK _ _ z5 (fun _ _ h => h) rfl (hq _)
   | 10, ho =>
     cases ho
     refine wpOp_of rfl rfl ?_
     have f9 : (aq.tmps.getD 38 undef) = .pointer (some ⟨g, 0, none⟩) := z6 9 38 (hall { on := 9, ground := Ground.data } (by simp) rfl) rfl
     have hq : ∀ v : Value, SqdN g x y u r Wd (lq.setIfInBounds 10 true) (aq.put (some 39) v) W := fun v => ⟨by rw [getD_set_neq (i := 10) (j := 15) (by decide)]; exact hs.1, by rw [getD_set_neq (i := 10) (j := 15) (by decide), getD_set_neq (i := 10) (j := 16) (by decide)]; exact hs.2.1, by rw [getD_set_neq (i := 10) (j := 16) (by decide)]; exact hs.2.2.1, by rw [getD_set_neq (i := 10) (j := 15) (by decide), getD_set_neq (i := 10) (j := 16) (by decide)]; exact hs.2.2.2⟩
     have hK := fun (v : Value) (W2 : World) hW hT hv (hs : SqdN g x y u r Wd (lq.setIfInBounds 10 true) (aq.put (some 39) v) W2) => show (JqdN g x y u r Wd w0 a0) (lq.setIfInBounds 10 true) (aq.put (some 39) v) W2 from ⟨hJ2.put hS 10 39 rfl (by omega) (W' := W2) hW hT v hv, hs⟩
     clear ho hall hl hQ
     generalize (JqdN g x y u r Wd w0 a0) (lq.setIfInBounds 10 true) = K at hK ⊢
     clear hJ2 hS z1 z2 z3 z4 z6 z7
     go_simp
     exact hK _ _ z5 (fun _ _ h => h) rfl (hq _)
   | 11, ho =>
     cases ho
     refine wpOp_of rfl rfl ?_
     have f10 : (aq.tmps.getD 39 undef) = .pointer (some ⟨g, 1, none⟩) := z6 10 39 (hall { on := 10, ground := Ground.data } (by simp) rfl) rfl
     have hq : ∀ v : Value, SqdN g x y u r Wd (lq.setIfInBounds 11 true) (aq.put (some 40) v) W := fun v => ⟨by rw [getD_set_neq (i := 11) (j := 15) (by decide)]; exact hs.1, by rw [getD_set_neq (i := 11) (j := 15) (by decide), getD_set_neq (i := 11) (j := 16) (by decide)]; exact hs.2.1, by rw [getD_set_neq (i := 11) (j := 16) (by decide)]; exact hs.2.2.1, by rw [getD_set_neq (i := 11) (j := 15) (by decide), getD_set_neq (i := 11) (j := 16) (by decide)]; exact hs.2.2.2⟩
     have hK := fun (v : Value) (W2 : World) hW hT hv (hs : SqdN g x y u r Wd (lq.setIfInBounds 11 true) (aq.put (some 40) v) W2) => show (JqdN g x y u r Wd w0 a0) (lq.setIfInBounds 11 true) (aq.put (some 40) v) W2 from ⟨hJ2.put hS 11 40 rfl (by omega) (W' := W2) hW hT v hv, hs⟩
     clear ho hall hl hQ
     generalize (JqdN g x y u r Wd w0 a0) (lq.setIfInBounds 11 true) = K at hK ⊢
     clear hJ2 hS z1 z2 z3 z4 z6 z7
     go_simp
     exact hK _ _ z5 (fun _ _ h => h) rfl (hq _)
   | 12, ho =>
     cases ho
     refine wpOp_of rfl rfl ?_
     have hq : ∀ v : Value, SqdN g x y u r Wd (lq.setIfInBounds 12 true) (aq.put (some 41) v) W := fun v => ⟨by rw [getD_set_neq (i := 12) (j := 15) (by decide)]; exact hs.1, by rw [getD_set_neq (i := 12) (j := 15) (by decide), getD_set_neq (i := 12) (j := 16) (by decide)]; exact hs.2.1, by rw [getD_set_neq (i := 12) (j := 16) (by decide)]; exact hs.2.2.1, by rw [getD_set_neq (i := 12) (j := 15) (by decide), getD_set_neq (i := 12) (j := 16) (by decide)]; exact hs.2.2.2⟩
     have hK := fun (v : Value) (W2 : World) hW hT hv (hs : SqdN g x y u r Wd (lq.setIfInBounds 12 true) (aq.put (some 41) v) W2) => show (JqdN g x y u r Wd w0 a0) (lq.setIfInBounds 12 true) (aq.put (some 41) v) W2 from ⟨hJ2.put hS 12 41 rfl (by omega) (W' := W2) hW hT v hv, hs⟩
     clear ho hall hl hQ
     generalize (JqdN g x y u r Wd w0 a0) (lq.setIfInBounds 12 true) = K at hK ⊢
     clear hJ2 hS z1 z2 z3 z4 z6 z7
     go_simp
     exact hK _ _ z5 (fun _ _ h => h) rfl (hq _)
   | 13, ho =>
     cases ho
     refine wpOp_of rfl rfl ?_
     have f11 : (aq.tmps.getD 40 undef) = .int .i64 y := z6 11 40 (hall { on := 11, ground := Ground.data } (by simp) rfl) rfl
     have f12 : (aq.tmps.getD 41 undef) = .int .i64 u := z6 12 41 (hall { on := 12, ground := Ground.data } (by simp) rfl) rfl
     have hq : ∀ v : Value, SqdN g x y u r Wd (lq.setIfInBounds 13 true) (aq.put (some 42) v) W := fun v => ⟨by rw [getD_set_neq (i := 13) (j := 15) (by decide)]; exact hs.1, by rw [getD_set_neq (i := 13) (j := 15) (by decide), getD_set_neq (i := 13) (j := 16) (by decide)]; exact hs.2.1, by rw [getD_set_neq (i := 13) (j := 16) (by decide)]; exact hs.2.2.1, by rw [getD_set_neq (i := 13) (j := 15) (by decide), getD_set_neq (i := 13) (j := 16) (by decide)]; exact hs.2.2.2⟩
     have hw : IntKind.i64.wrap (y + u) = y + u := by rw [IntKind.wrap_i64]; omega
     have hK := fun (v : Value) (W2 : World) hW hT hv (hs : SqdN g x y u r Wd (lq.setIfInBounds 13 true) (aq.put (some 42) v) W2) => show (JqdN g x y u r Wd w0 a0) (lq.setIfInBounds 13 true) (aq.put (some 42) v) W2 from ⟨hJ2.put hS 13 42 rfl (by omega) (W' := W2) hW hT v hv, hs⟩
     clear ho hall hl hQ
     generalize (JqdN g x y u r Wd w0 a0) (lq.setIfInBounds 13 true) = K at hK ⊢
     clear hJ2 hS z1 z2 z3 z4 z6 z7
     go_simp
     exact hK _ _ z5 (fun _ _ h => h) rfl (hq _)
   | 14, ho =>
     cases ho
     refine wpOp_of rfl rfl ?_
     have f6 : (aq.tmps.getD 35 undef) = .int .i64 (x + r) := z6 6 35 (hall { on := 6, ground := Ground.data } (by simp) rfl) rfl
     have f13 : (aq.tmps.getD 42 undef) = .int .i64 (y + u) := z6 13 42 (hall { on := 13, ground := Ground.data } (by simp) rfl) rfl
     have hq : ∀ v : Value, SqdN g x y u r Wd (lq.setIfInBounds 14 true) (aq.put (some 43) v) W := fun v => ⟨by rw [getD_set_neq (i := 14) (j := 15) (by decide)]; exact hs.1, by rw [getD_set_neq (i := 14) (j := 15) (by decide), getD_set_neq (i := 14) (j := 16) (by decide)]; exact hs.2.1, by rw [getD_set_neq (i := 14) (j := 16) (by decide)]; exact hs.2.2.1, by rw [getD_set_neq (i := 14) (j := 15) (by decide), getD_set_neq (i := 14) (j := 16) (by decide)]; exact hs.2.2.2⟩
     rw [Array.getD_eq_getD_getElem?] at f6 f13
     have hK := fun (v : Value) (W2 : World) hW hT hv (hs : SqdN g x y u r Wd (lq.setIfInBounds 14 true) (aq.put (some 43) v) W2) => show (JqdN g x y u r Wd w0 a0) (lq.setIfInBounds 14 true) (aq.put (some 43) v) W2 from ⟨hJ2.put hS 14 43 rfl (by omega) (W' := W2) hW hT v hv, hs⟩
     clear ho hall hl hQ
     generalize (JqdN g x y u r Wd w0 a0) (lq.setIfInBounds 14 true) = K at hK ⊢
     clear hJ2 hS z1 z2 z3 z4 z6 z7
     go_simp
     exact hK _ _ z5 (fun _ _ h => h) rfl (hq _)
   | 15, ho =>
     cases ho
     refine wpOp_of rfl rfl ?_
     have h15 := getD_tf hl
     have eW : W = Wd := hs.1 h15
     have hq : ∀ v : Value, SqdN g x y u r Wd (lq.setIfInBounds 15 true) (aq.put (some 9) v) (W.alloc (.cells #[.int .i64 0, .int .i64 0] 37)) := fun v => ⟨(fun h => by rw [getD_set_eq hl] at h; cases h), fun _ _ => by rw [eW], (fun h => by rw [getD_set_neq (i := 15) (j := 16) (by decide)] at h; rw [hs.2.2.2 h] at h15; cases h15), fun _ => getD_set_eq hl⟩
     have hp : Hid (W.heap.size = Wd.heap.size) := congrArg (fun w : World => w.heap.size) eW
     clear eW hWe hs
     have hK := fun (v : Value) (W2 : World) hW hT hv (hs : SqdN g x y u r Wd (lq.setIfInBounds 15 true) (aq.put (some 9) v) W2) => show (JqdN g x y u r Wd w0 a0) (lq.setIfInBounds 15 true) (aq.put (some 9) v) W2 from ⟨hJ2.put hS 15 9 rfl (by omega) (W' := W2) hW hT v hv, hs⟩
     clear ho hall hl hQ
     generalize (JqdN g x y u r Wd w0 a0) (lq.setIfInBounds 15 true) = K at hK ⊢
     clear hJ2 hS z1 z2 z3 z4 z6 z7
     go_simp
     exact hK _ _ (z5.alloc z5.size _) (fun j v h => h.same) (by show Value.pointer _ = _; rw [hp.out]) (hq _)
   | 16, ho =>
     cases ho
     refine wpOp_of rfl rfl ?_
     have f15 : (aq.tmps.getD 9 undef) = .pointer (some ⟨Wd.heap.size, 0, none⟩) := z6 15 9 (hall { on := 15, ground := Ground.data } (by simp) rfl) rfl
     have f14 : (aq.tmps.getD 43 undef) = .agg #[.int .i64 (x + r), .int .i64 (y + u)] := z6 14 43 (hall { on := 14, ground := Ground.data } (by simp) rfl) rfl
     have l15 := hall { on := 15, ground := Ground.data } (by simp) rfl
     have h16 := getD_tf hl
     have eW : W = (Wd.alloc (.cells #[.int .i64 0, .int .i64 0] 37)) := hs.2.1 l15 h16
     have xR : Blk W Wd.heap.size [.int .i64 0, .int .i64 0] := by rw [eW]; exact Blk.new Wd [.int .i64 0, .int .i64 0] 37 rfl
     have y0 := xR.c 0 rfl; have y1 := xR.c 1 rfl; have g0z := xR.f 0 rfl; have g1z := xR.f 1 rfl
     have hq : SqdN g x y u r Wd (lq.setIfInBounds 16 true) aq ((W.setCell ⟨Wd.heap.size, 0, none⟩ (.int .i64 (x + r))).setCell ⟨Wd.heap.size, 1, none⟩ (.int .i64 (y + u))) := ⟨(fun h => by rw [getD_set_neq (i := 16) (j := 15) (by decide), l15] at h; cases h), (fun _ h => by rw [getD_set_eq hl] at h; cases h), fun _ => by rw [eW], fun _ => by rw [getD_set_neq (i := 16) (j := 15) (by decide)]; exact l15⟩
     clear eW hWe hs
     have hK := fun (W2 : World) hW hT hv (hs : SqdN g x y u r Wd (lq.setIfInBounds 16 true) aq W2) => show (JqdN g x y u r Wd w0 a0) (lq.setIfInBounds 16 true) aq W2 from ⟨hJ2.world 16 rfl (W' := W2) hW hT hv, hs⟩
     clear ho hall hl hQ
     generalize (JqdN g x y u r Wd w0 a0) (lq.setIfInBounds 16 true) = K at hK ⊢
     clear hJ2 hS z1 z2 z3 z4 z6 z7
     go_simp
     exact hK _ ((z5.setCell (p := ⟨Wd.heap.size, 0, none⟩) hWd _).setCell (p := ⟨Wd.heap.size, 1, none⟩) hWd _) (fun j v h => h.same) trivial hq
   | iq + 17, ho => simp at ho
 · intro lq aq W ⟨hJ, hs⟩ hr
   obtain ⟨z1, z2, z3, z4, z5, z6, z7⟩ := hJ
   have hl := listed_of hr [15, 0, 1, 2, 3, 4, 5, 6, 7, 8, 9, 10, 11, 12, 13, 14, 16] [] (by simp) (by kernel_rfl) (by rw [z1]; decide)
   exact hQ aq W z2 z3 (fun e he => z4 e (by simpa using he)) (z6 15 9 (hl 15 (by simp)) rfl) (z7 16 (hl 16 (by simp)) rfl) z5 (hs.2.2.1 (hl 16 (by simp)))
theorem wp_append_q {P : Program} {o : Oper} {a : Act} {w : World} {K : Act → World → Prop} {Q : Exit → Act → World → Prop} (s x : Operand) (t : TypeId)
   (ho : o.op = .call { callee := .builtin .append, args := #[s, x], argTypes := #[t, t] })
   (base : Nat) (e : TypeId) (i : TypeInfo) (z : Value) (size bytes : Nat) (ht : P.underlying t = some (.slice e)) (hi : P.info? e = some i) (hz : i.zero = some z)
   (hsize : i.size = size) (hby : i.bytes = bytes) (hzs : z.cells.size = size) (hsz : 0 < size)
   (v : Value) (n : Nat) (xs : List Value) (hs : a.eval s = v) (hown : w.ownsRow base e size v n xs)
   (ad : Addr) (m c : Nat) (news : List Value) (hx : a.eval x = .slice (some ad) m c) (hl : news.length = m * size) (hnews : ∀ j u, news[j]? = some u → w.cell? (ad.add j) = some u) (h1 : ∀ u ∈ news, u.oneCell' = true)
   (h63 : n + m ≤ maxLen) (hbytes : (n + m) * bytes ≤ 140737488355328) (hbase : base ≤ w.heap.size)
   (h : ∀ v' w', w'.ownsRow base e size v' (n + m) (xs ++ news) → w.grownBy w' v.ownBlock → (v'.ownBlock = v.ownBlock ∨ v'.ownBlock = some w.heap.size) → K (a.put o.dst v') w') : o.wp P a w K Q := by
 obtain ⟨v', w', hr, h2, h3, _, h5⟩ := run_append_own_at (P := P) w base t o.type e i z size bytes ht hi hz hsize hby hzs hsz v n xs hown ad m c news hl hnews h1 h63 hbytes hbase
 unfold Oper.wp execOp
 simp only [ho, resolve, invoke, builtin, Sem.run_bind, Sem.run_pure, Result.andThen_ok, List.map_toArray, List.map_cons, List.map_nil, hs, hx, hr]
 exact h v' w' h2 h3 h5
structure QsS (cx cy hf lv : Int) (o : Value) (c base : Nat) (Lz : List Value) (Wd : World) (b9 b10 b11 b12 : Bool) (v4 v55 : Value) (W : World) : Prop where
 w0 : b9 = false → W = Wd
 w1 : b9 = true → b10 = false → W = (Wd.alloc (.cells #[.int .i64 cx, .int .i64 cy, .int .i64 hf, .int .i64 (lv + 1), .slice none 0 0, .slice none 0 0] 99))
 w2 : b10 = true → b11 = false → W = ((Wd.alloc (.cells #[.int .i64 cx, .int .i64 cy, .int .i64 hf, .int .i64 (lv + 1), .slice none 0 0, .slice none 0 0] 99)).alloc (.cells #[.pointer (some ⟨Wd.heap.size, 0, none⟩)] 63))
 r : b11 = true → (W.ownsRow base 63 1 v55 (c + 1) (Lz ++ [.pointer (some ⟨Wd.heap.size, 0, none⟩)]) ∧ ((Wd.alloc (.cells #[.int .i64 cx, .int .i64 cy, .int .i64 hf, .int .i64 (lv + 1), .slice none 0 0, .slice none 0 0] 99)).alloc (.cells #[.pointer (some ⟨Wd.heap.size, 0, none⟩)] 63)).grownBy W o.ownBlock ∧ (v55.ownBlock = o.ownBlock ∨ v55.ownBlock = some ((Wd.alloc (.cells #[.int .i64 cx, .int .i64 cy, .int .i64 hf, .int .i64 (lv + 1), .slice none 0 0, .slice none 0 0] 99)).alloc (.cells #[.pointer (some ⟨Wd.heap.size, 0, none⟩)] 63)).heap.size))
 o1 : b10 = true → b9 = true
 o2 : b11 = true → b10 = true
 o3 : b12 = true → b11 = true
 k : b12 = false → v4 = o
 e : b12 = true → v4 = v55
def QsI (cx cy hf lv : Int) (o : Value) (c base : Nat) (Lz : List Value) (Wd : World) (lz : Array Bool) (az : Act) (W : World) : Prop := QsS cx cy hf lv o c base Lz Wd (lz.getD 9 false) (lz.getD 10 false) (lz.getD 11 false) (lz.getD 12 false) (az.tmps.getD 4 undef) (az.tmps.getD 55 undef) W ∧ (lz.getD 12 false = true → ∀ j, j < 13 → lz.getD j false = true) ∧ (lz.getD 8 false = true → lz.getD 1 false = true) ∧ (lz.getD 9 false = true → lz.getD 8 false = true)
theorem QsI.start {cx cy hf lv : Int} {o : Value} {c base : Nat} {Lz : List Value} {Wd : World} {az : Act} {W : World} {m : Nat} (h4 : az.tmps.getD 4 undef = o) (hW : W = Wd) : QsI cx cy hf lv o c base Lz Wd (Array.replicate m false) az W := by
 unfold QsI
 simp only [replD]
 exact ⟨⟨fun _ => hW, (fun a => by cases a), (fun a => by cases a), (fun a => by cases a), (fun a => by cases a), (fun a => by cases a), (fun a => by cases a), fun _ => h4, (fun a => by cases a)⟩, (fun a => by cases a), (fun a => by cases a), (fun a => by cases a)⟩
theorem QsI.off {cx cy hf lv : Int} {o : Value} {c base : Nat} {Lz : List Value} {Wd : World} {lz : Array Bool} {az : Act} {W : World} (h : QsI cx cy hf lv o c base Lz Wd lz az W) {i : Nat} (hi : i < 13) (hl : lz.getD i true = false) : lz.getD 12 false = false := by
 cases hh : lz.getD 12 false with
 | false => rfl
 | true => have := h.2.1 hh i hi; rw [getD_tf hl] at this; cases this
theorem QsI.quiet {cx cy hf lv : Int} {o : Value} {c base : Nat} {Lz : List Value} {Wd : World} {lz : Array Bool} {az : Act} {W : World} (hs : QsI cx cy hf lv o c base Lz Wd lz az W) (i d : Nat) (v : Value) (hi : i < 13) (hl : lz.getD i true = false) (hn : i ∉ [8, 9, 10, 11, 12]) (hd : d ∉ [4, 55]) : QsI cx cy hf lv o c base Lz Wd (lz.setIfInBounds i true) (az.put (some d) v) W := by
 have h12 := hs.off hi hl
 simp only [List.mem_cons, List.not_mem_nil, or_false, not_or] at hn hd
 obtain ⟨n0, n1, n2, n3, n4⟩ := hn
 unfold QsI
 rw [getD_set_neq n0, getD_set_neq n1, getD_set_neq n2, getD_set_neq n3, getD_set_neq n4, put_getD_ne hd.1, put_getD_ne hd.2]
 refine ⟨hs.1, (fun a => by rw [h12] at a; cases a), fun a => ?_, hs.2.2.2⟩
 by_cases e : i = 1
 · subst e; exact getD_set_eq hl
 · rw [getD_set_neq e]; exact hs.2.2.1 a
theorem QsI.put8 {cx cy hf lv : Int} {o : Value} {c base : Nat} {Lz : List Value} {Wd : World} {lz : Array Bool} {az : Act} {W : World} (hs : QsI cx cy hf lv o c base Lz Wd lz az W) (v : Value) (hl : lz.getD 8 true = false) (h1 : lz.getD 1 false = true) : QsI cx cy hf lv o c base Lz Wd (lz.setIfInBounds 8 true) (az.put (some 52) v) W := by
 have h12 := hs.off (i := 8) (by decide) hl
 unfold QsI
 rw [getD_set_neq (i := 8) (j := 9) (by decide), getD_set_neq (i := 8) (j := 10) (by decide), getD_set_neq (i := 8) (j := 11) (by decide), getD_set_neq (i := 8) (j := 12) (by decide), getD_set_neq (i := 8) (j := 1) (by decide), put_getD_ne (show 52 ≠ 4 by decide), put_getD_ne (show 52 ≠ 55 by decide)]
 exact ⟨hs.1, (fun a => by rw [h12] at a; cases a), fun _ => h1, fun _ => getD_set_eq hl⟩
theorem QsI.early {cx cy hf lv : Int} {o : Value} {c base : Nat} {Lz : List Value} {Wd : World} {lz : Array Bool} {az : Act} {W : World} (hs : QsI cx cy hf lv o c base Lz Wd lz az W) (hl : lz.getD 1 true = false) : W = Wd := by
 refine hs.1.w0 ?_
 cases e : lz.getD 9 false with
 | false => rfl
 | true => have := hs.2.2.1 (hs.2.2.2 e); rw [getD_tf hl] at this; cases this
theorem QsI.put9 {cx cy hf lv : Int} {o : Value} {c base : Nat} {Lz : List Value} {Wd : World} {lz : Array Bool} {az : Act} {W W2 : World} (hs : QsI cx cy hf lv o c base Lz Wd lz az W) (hl : lz.getD 9 true = false) (h8 : lz.getD 8 false = true) {u : Value} (hc : QsS cx cy hf lv o c base Lz Wd true (lz.getD 10 false) (lz.getD 11 false) (lz.getD 12 false) (az.tmps.getD 4 undef) (az.tmps.getD 55 undef) W2) : QsI cx cy hf lv o c base Lz Wd (lz.setIfInBounds 9 true) (az.put (some 53) u) W2 := by
 have h12 := hs.off (i := 9) (by decide) hl
 unfold QsI
 rw [getD_set_eq hl, getD_set_neq (i := 9) (j := 10) (by decide), getD_set_neq (i := 9) (j := 11) (by decide), getD_set_neq (i := 9) (j := 12) (by decide), getD_set_neq (i := 9) (j := 8) (by decide), getD_set_neq (i := 9) (j := 1) (by decide), put_getD_ne (show 53 ≠ 4 by decide), put_getD_ne (show 53 ≠ 55 by decide)]
 exact ⟨hc, (fun a => by rw [h12] at a; cases a), hs.2.2.1, fun _ => h8⟩
theorem QsI.put10 {cx cy hf lv : Int} {o : Value} {c base : Nat} {Lz : List Value} {Wd : World} {lz : Array Bool} {az : Act} {W W2 : World} (hs : QsI cx cy hf lv o c base Lz Wd lz az W) (hl : lz.getD 10 true = false) {u : Value} (hc : QsS cx cy hf lv o c base Lz Wd (lz.getD 9 false) true (lz.getD 11 false) (lz.getD 12 false) (az.tmps.getD 4 undef) (az.tmps.getD 55 undef) W2) : QsI cx cy hf lv o c base Lz Wd (lz.setIfInBounds 10 true) (az.put (some 54) u) W2 := by
 have h12 := hs.off (i := 10) (by decide) hl
 unfold QsI
 rw [getD_set_neq (i := 10) (j := 9) (by decide), getD_set_eq hl, getD_set_neq (i := 10) (j := 11) (by decide), getD_set_neq (i := 10) (j := 12) (by decide), getD_set_neq (i := 10) (j := 8) (by decide), getD_set_neq (i := 10) (j := 1) (by decide), put_getD_ne (show 54 ≠ 4 by decide), put_getD_ne (show 54 ≠ 55 by decide)]
 exact ⟨hc, (fun a => by rw [h12] at a; cases a), hs.2.2.1, hs.2.2.2⟩
theorem QsI.put11 {cx cy hf lv : Int} {o : Value} {c base : Nat} {Lz : List Value} {Wd : World} {lz : Array Bool} {az : Act} {W W2 : World} (hs : QsI cx cy hf lv o c base Lz Wd lz az W) (hl : lz.getD 11 true = false) (hd : 55 < az.tmps.size) {u : Value} (hc : QsS cx cy hf lv o c base Lz Wd (lz.getD 9 false) (lz.getD 10 false) true (lz.getD 12 false) (az.tmps.getD 4 undef) u W2) : QsI cx cy hf lv o c base Lz Wd (lz.setIfInBounds 11 true) (az.put (some 55) u) W2 := by
 have h12 := hs.off (i := 11) (by decide) hl
 unfold QsI
 rw [getD_set_neq (i := 11) (j := 9) (by decide), getD_set_neq (i := 11) (j := 10) (by decide), getD_set_eq hl, getD_set_neq (i := 11) (j := 12) (by decide), getD_set_neq (i := 11) (j := 8) (by decide), getD_set_neq (i := 11) (j := 1) (by decide), put_getD_ne (show 55 ≠ 4 by decide), put_getD_same hd]
 exact ⟨hc, (fun a => by rw [h12] at a; cases a), hs.2.2.1, hs.2.2.2⟩
theorem QsI.put12 {cx cy hf lv : Int} {o : Value} {c base : Nat} {Lz : List Value} {Wd : World} {lz : Array Bool} {az : Act} {W : World} (hs : QsI cx cy hf lv o c base Lz Wd lz az W) (hl : lz.getD 12 true = false) (hd : 4 < az.tmps.size) (hall : ∀ j, j < 13 → j ≠ 12 → lz.getD j false = true) : QsI cx cy hf lv o c base Lz Wd (lz.setIfInBounds 12 true) (az.put (some 4) (az.tmps.getD 55 undef)) W := by
 have h11 := hall 11 (by decide) (by decide)
 obtain ⟨⟨a1, a2, a3, a4, a5, a6, a7, a8, a9⟩, _, q1, q2⟩ := hs
 unfold QsI
 rw [getD_set_neq (i := 12) (j := 9) (by decide), getD_set_neq (i := 12) (j := 10) (by decide), getD_set_neq (i := 12) (j := 11) (by decide), getD_set_neq (i := 12) (j := 8) (by decide), getD_set_neq (i := 12) (j := 1) (by decide), getD_set_eq hl, put_getD_same hd, put_getD_ne (show 4 ≠ 55 by decide)]
 refine ⟨⟨a1, a2, a3, a4, a5, a6, fun _ => h11, (fun a => by cases a), fun _ => rfl⟩, fun _ j hj => ?_, q1, q2⟩
 by_cases e : j = 12
 · subst e; exact getD_set_eq hl
 · rw [getD_set_neq (Ne.symm e)]; exact hall j hj e
def VqdO (g _C : Nat) (cx cy hf lv : Int) (o : Value) (_c _base : Nat) (_Lz : List Value) (Wd : World) (_B : Nat) : Nat → Value → World → Prop
 | 0, v, _ => v = o
 | 1, v, _ => v = Sp cx cy
 | 2, v, _ => v = .int .i64 hf
 | 3, v, _ => v = .pointer (some ⟨g, 0, none⟩)
 | 4, v, _ => v = .pointer (some ⟨g, 0, none⟩)
 | 5, v, _ => v = .pointer (some ⟨g, 3, none⟩)
 | 6, v, _ => v = .int .i64 lv
 | 7, v, _ => v = .int .i64 (lv + 1)
 | 8, v, _ => v = .agg #[.int .i64 cx, .int .i64 cy, .int .i64 hf, .int .i64 (lv + 1), .slice none 0 0, .slice none 0 0]
 | 9, v, _ => v = .pointer (some ⟨Wd.heap.size, 0, none⟩)
 | 10, v, _ => v = .slice (some ⟨Wd.heap.size + 1, 0, none⟩) 1 1
 | _, _, _ => True
theorem VqdO.same {g C : Nat} {cx cy hf lv : Int} {o : Value} {c base : Nat} {Lz : List Value} {Wd : World} {B j : Nat} {v : Value} {W W2 : World} (h : VqdO g C cx cy hf lv o c base Lz Wd B j v W) : VqdO g C cx cy hf lv o c base Lz Wd B j v W2 := by
 unfold VqdO at *
 split <;> simp only at h <;> first | exact h | trivial
def SqdO (_g _C : Nat) (cx cy hf lv : Int) (o : Value) (c base : Nat) (Lz : List Value) (Wd : World) (lz : Array Bool) (az : Act) (W : World) : Prop := QsI cx cy hf lv o c base Lz Wd lz az W
def JqdO (g C : Nat) (cx cy hf lv : Int) (o : Value) (c base : Nat) (Lz : List Value) (Wd : World) (w0 : World) (a0 : Act) (lz : Array Bool) (az : Act) (W : World) : Prop := InvQ (base) [some 44, some 45, some 46, some 47, some 48, some 49, some 50, some 51, some 52, some 53, some 54, some 55, some 4] (VqdO g C cx cy hf lv o c base Lz Wd (base)) w0 a0 lz az W ∧ SqdO g C cx cy hf lv o c base Lz Wd lz az W
set_option maxRecDepth 100000 in
set_option maxHeartbeats 4000000 in
theorem qdO {Q : Exit → Act → World → Prop} {g C : Nat} {cx cy hf lv : Int} {o : Value} {c base : Nat} {Lz : List Value} {Wd : World} {i0 : TypeInfo} {w0 : World} {a0 : Act} {idq : Nat} {t0 t1 t2 t3 t4 t5 t6 t7 t8 t9 t10 t11 t12 : TypeId} {q0 q1 q2 q3 q4 q5 q6 q7 q8 q9 q10 q11 q12 : String}
   (hi0 : Try.prog.info? 63 = some i0) (hz0 : i0.zero = some (.pointer none)) (hz1 : i0.size = 1) (hz2 : i0.bytes = 8) (hlv1 : 0 ≤ lv) (hlv2 : lv ≤ 1000) (hc : c ≤ 100) (hbw : base ≤ w0.heap.size) (hown0 : w0.drew.ownsRow base 63 1 o c Lz) (h4 : a0.tmps.getD 4 undef = o) (hC0 : Wd.cell? ⟨C, 0, none⟩ = some (.int .i64 cx)) (hC1 : Wd.cell? ⟨C, 1, none⟩ = some (.int .i64 cy)) (hWe : Wd = w0.drew) (h0 : a0.tmps[0]? = some (.pointer (some ⟨g, 0, none⟩))) (h3 : a0.tmps[3]? = some (.int .i64 hf)) (h9 : a0.tmps[9]? = some (.pointer (some ⟨C, 0, none⟩))) (k0 : w0.cell? ⟨g, 3, none⟩ = some (.int .i64 lv)) (l0 : (⟨g, 3, none⟩ : Addr).block < base) (hz : a0.tmps.size = 59)
   (hQ : ∀ aq W, aq.tmps.size = a0.tmps.size → aq.defers = a0.defers → (∀ e, e ∉ ([44, 45, 46, 47, 48, 49, 50, 51, 52, 53, 54, 55, 4] : List Nat) → aq.tmps[e]? = a0.tmps[e]?) → VqdO g C cx cy hf lv o c base Lz Wd (base) 12 (aq.tmps.getD 4 undef) W → Below (base) w0 W → (W.ownsRow base 63 1 (aq.tmps.getD 4 undef) (c + 1) (Lz ++ [.pointer (some ⟨Wd.heap.size, 0, none⟩)]) ∧ ((Wd.alloc (.cells #[.int .i64 cx, .int .i64 cy, .int .i64 hf, .int .i64 (lv + 1), .slice none 0 0, .slice none 0 0] 99)).alloc (.cells #[.pointer (some ⟨Wd.heap.size, 0, none⟩)] 63)).grownBy W o.ownBlock ∧ ((aq.tmps.getD 4 undef).ownBlock = o.ownBlock ∨ (aq.tmps.getD 4 undef).ownBlock = some ((Wd.alloc (.cells #[.int .i64 cx, .int .i64 cy, .int .i64 hf, .int .i64 (lv + 1), .slice none 0 0, .slice none 0 0] 99)).alloc (.cells #[.pointer (some ⟨Wd.heap.size, 0, none⟩)] 63)).heap.size)) → Q .normal aq W) :
   (Code.region idq #[{ dst := some 44, op := Op.move (Operand.tmp 4), type := t0, pos := q0, after := #[], guard := none },
   { dst := some 45, op := Op.load 37 (Operand.tmp 9), type := t1, pos := q1, after := #[], guard := none },
   { dst := some 46, op := Op.move (Operand.tmp 3), type := t2, pos := q2, after := #[], guard := none },
   { dst := some 47, op := Op.move (Operand.tmp 0), type := t3, pos := q3, after := #[], guard := none },
   { dst := some 48, op := Op.nilCheck (Operand.tmp 47), type := t4, pos := q4, after := #[{ on := 3, ground := Ground.data }], guard := none },
   { dst := some 49, op := Op.fieldAddr 99 (Operand.tmp 48) 2, type := t5, pos := q5, after := #[{ on := 4, ground := Ground.data }], guard := none },
   { dst := some 50, op := Op.load 2 (Operand.tmp 49), type := t6, pos := q6, after := #[{ on := 5, ground := Ground.data }], guard := none },
   { dst := some 51, op := Op.binOp BinOp.add 2 (Operand.tmp 50) (Operand.const (Value.int IntKind.i64 1)) 2, type := t7, pos := q7, after := #[{ on := 6, ground := Ground.data }], guard := none },
   { dst := some 52, op := Op.build 99 #[(0, Operand.tmp 45), (1, Operand.tmp 46), (2, Operand.tmp 51)], type := t8, pos := q8, after := #[{ on := 1, ground := Ground.data }, { on := 2, ground := Ground.data }, { on := 7, ground := Ground.data }], guard := none },
   { dst := some 53, op := Op.box 99 (Operand.tmp 52), type := t9, pos := q9, after := #[{ on := 8, ground := Ground.data }], guard := none },
   { dst := some 54, op := Op.buildSlice 97 1 #[(0, Operand.tmp 53)], type := t10, pos := q10, after := #[{ on := 9, ground := Ground.data }], guard := none },
   { dst := some 55, op := Op.call { callee := Callee.builtin Builtin.append, args := #[Operand.tmp 44, Operand.tmp 54], argTypes := #[97, 97] }, type := t11, pos := q11, after := #[{ on := 0, ground := Ground.data }, { on := 10, ground := Ground.data }], guard := none },
   { dst := some 4, op := Op.assign (Operand.tmp 55), type := t12, pos := q12, after := #[{ on := 11, ground := Ground.data }, { on := 11, ground := Ground.chain }, { on := 0, ground := Ground.phase }, { on := 1, ground := Ground.phase }, { on := 2, ground := Ground.phase }, { on := 3, ground := Ground.phase }, { on := 4, ground := Ground.phase }, { on := 5, ground := Ground.phase }, { on := 6, ground := Ground.phase }, { on := 7, ground := Ground.phase }, { on := 8, ground := Ground.phase }, { on := 9, ground := Ground.phase }, { on := 10, ground := Ground.phase }, { on := 11, ground := Ground.phase }], guard := none }] true).wp Try.prog Q a0 w0 := by
 have hS : distS [some 44, some 45, some 46, some 47, some 48, some 49, some 50, some 51, some 52, some 53, some 54, some 55, some 4] = true := rfl
 refine wp_region_inv (by kernel_rfl) (JqdO g C cx cy hf lv o c base Lz Wd w0 a0) ⟨⟨rfl, rfl, rfl, fun _ _ => rfl, (Below.refl _ w0).drew, fun j d hj => ?_, fun j hj => ?_⟩, QsI.start h4 hWe.symm⟩ ?_ ?_
 · exfalso
   rw [Array.getD_eq_getD_getElem?, Array.getElem?_replicate] at hj
   split at hj <;> simp at hj
 · exfalso
   rw [Array.getD_eq_getD_getElem?, Array.getElem?_replicate] at hj
   split at hj <;> simp at hj
 · intro lq aq W iq oq ⟨hJ, hs⟩ hl ho hall
   have hJ2 := hJ
   obtain ⟨z1, z2, z3, z4, z5, z6, z7⟩ := hJ
   have g0 : aq.tmps.getD 0 undef = .pointer (some ⟨g, 0, none⟩) := by rw [Array.getD_eq_getD_getElem?, z4 0 (by decide), h0]; rfl
   have g3 : aq.tmps.getD 3 undef = .int .i64 hf := by rw [Array.getD_eq_getD_getElem?, z4 3 (by decide), h3]; rfl
   have g9 : aq.tmps.getD 9 undef = .pointer (some ⟨C, 0, none⟩) := by rw [Array.getD_eq_getD_getElem?, z4 9 (by decide), h9]; rfl
   have c0 : W.cell? ⟨g, 3, none⟩ = some (.int .i64 lv) := (z5.cell l0).trans k0
   match iq, ho with
   | 0, ho =>
     cases ho
     refine wpOp_of rfl rfl ?_
     have hq := fun (v : Value) => hs.quiet 0 44 v (by decide) hl (by decide) (by decide)
     have f4 : aq.tmps.getD 4 undef = o := hs.1.k (hs.off (i := 0) (by decide) hl)
     rw [Array.getD_eq_getD_getElem?] at f4
     have hK := fun (v : Value) (W2 : World) hW hT hv (hs : SqdO g C cx cy hf lv o c base Lz Wd (lq.setIfInBounds 0 true) (aq.put (some 44) v) W2) => show (JqdO g C cx cy hf lv o c base Lz Wd w0 a0) (lq.setIfInBounds 0 true) (aq.put (some 44) v) W2 from ⟨hJ2.put hS 0 44 rfl (by omega) (W' := W2) hW hT v hv, hs⟩
     clear ho hall hl hQ
     generalize (JqdO g C cx cy hf lv o c base Lz Wd w0 a0) (lq.setIfInBounds 0 true) = K at hK ⊢
     clear hJ2 hS z1 z2 z3 z4 z6 z7
     go_simp
     exact hK _ _ z5 (fun _ _ h => h) rfl (hq _)
   | 1, ho =>
     cases ho
     refine wpOp_of rfl rfl ?_
     have hq := fun (v : Value) => hs.quiet 1 45 v (by decide) hl (by decide) (by decide)
     have eW := hs.early hl
     have c8 : W.cell? ⟨C, 0, none⟩ = some (.int .i64 cx) := by rw [eW]; exact hC0
     have c9 : W.cell? ⟨C, 1, none⟩ = some (.int .i64 cy) := by rw [eW]; exact hC1
     clear eW hWe hs
     have hK := fun (v : Value) (W2 : World) hW hT hv (hs : SqdO g C cx cy hf lv o c base Lz Wd (lq.setIfInBounds 1 true) (aq.put (some 45) v) W2) => show (JqdO g C cx cy hf lv o c base Lz Wd w0 a0) (lq.setIfInBounds 1 true) (aq.put (some 45) v) W2 from ⟨hJ2.put hS 1 45 rfl (by omega) (W' := W2) hW hT v hv, hs⟩
     clear ho hall hl hQ
     generalize (JqdO g C cx cy hf lv o c base Lz Wd w0 a0) (lq.setIfInBounds 1 true) = K at hK ⊢
     clear hJ2 hS z1 z2 z3 z4 z6 z7
     go_simp
     exact hK _ _ z5 (fun _ _ h => h) rfl (hq _)
   | 2, ho =>
     cases ho
     refine wpOp_of rfl rfl ?_
     have hq := fun (v : Value) => hs.quiet 2 46 v (by decide) hl (by decide) (by decide)
     have hK := fun (v : Value) (W2 : World) hW hT hv (hs : SqdO g C cx cy hf lv o c base Lz Wd (lq.setIfInBounds 2 true) (aq.put (some 46) v) W2) => show (JqdO g C cx cy hf lv o c base Lz Wd w0 a0) (lq.setIfInBounds 2 true) (aq.put (some 46) v) W2 from ⟨hJ2.put hS 2 46 rfl (by omega) (W' := W2) hW hT v hv, hs⟩
     clear ho hall hl hQ
     generalize (JqdO g C cx cy hf lv o c base Lz Wd w0 a0) (lq.setIfInBounds 2 true) = K at hK ⊢
     clear hJ2 hS z1 z2 z3 z4 z6 z7
     go_simp
     exact hK _ _ z5 (fun _ _ h => h) rfl (hq _)
   | 3, ho =>
     cases ho
     refine wpOp_of rfl rfl ?_
     have hq := fun (v : Value) => hs.quiet 3 47 v (by decide) hl (by decide) (by decide)
     have hK := fun (v : Value) (W2 : World) hW hT hv (hs : SqdO g C cx cy hf lv o c base Lz Wd (lq.setIfInBounds 3 true) (aq.put (some 47) v) W2) => show (JqdO g C cx cy hf lv o c base Lz Wd w0 a0) (lq.setIfInBounds 3 true) (aq.put (some 47) v) W2 from ⟨hJ2.put hS 3 47 rfl (by omega) (W' := W2) hW hT v hv, hs⟩
     clear ho hall hl hQ
     generalize (JqdO g C cx cy hf lv o c base Lz Wd w0 a0) (lq.setIfInBounds 3 true) = K at hK ⊢
     clear hJ2 hS z1 z2 z3 z4 z6 z7
     go_simp
     exact hK _ _ z5 (fun _ _ h => h) rfl (hq _)
   | 4, ho =>
     cases ho
     refine wpOp_of rfl rfl ?_
     have f3 : (aq.tmps.getD 47 undef) = .pointer (some ⟨g, 0, none⟩) := z6 3 47 (hall { on := 3, ground := Ground.data } (by simp) rfl) rfl
     have hq := fun (v : Value) => hs.quiet 4 48 v (by decide) hl (by decide) (by decide)
     have hK := fun (v : Value) (W2 : World) hW hT hv (hs : SqdO g C cx cy hf lv o c base Lz Wd (lq.setIfInBounds 4 true) (aq.put (some 48) v) W2) => show (JqdO g C cx cy hf lv o c base Lz Wd w0 a0) (lq.setIfInBounds 4 true) (aq.put (some 48) v) W2 from ⟨hJ2.put hS 4 48 rfl (by omega) (W' := W2) hW hT v hv, hs⟩
     clear ho hall hl hQ
     generalize (JqdO g C cx cy hf lv o c base Lz Wd w0 a0) (lq.setIfInBounds 4 true) = K at hK ⊢
     clear hJ2 hS z1 z2 z3 z4 z6 z7
     go_simp
     exact hK _ _ z5 (fun _ _ h => h) rfl (hq _)
   | 5, ho =>
     cases ho
     refine wpOp_of rfl rfl ?_
     have f4 : (aq.tmps.getD 48 undef) = .pointer (some ⟨g, 0, none⟩) := z6 4 48 (hall { on := 4, ground := Ground.data } (by simp) rfl) rfl
     have hq := fun (v : Value) => hs.quiet 5 49 v (by decide) hl (by decide) (by decide)
     have hK := fun (v : Value) (W2 : World) hW hT hv (hs : SqdO g C cx cy hf lv o c base Lz Wd (lq.setIfInBounds 5 true) (aq.put (some 49) v) W2) => show (JqdO g C cx cy hf lv o c base Lz Wd w0 a0) (lq.setIfInBounds 5 true) (aq.put (some 49) v) W2 from ⟨hJ2.put hS 5 49 rfl (by omega) (W' := W2) hW hT v hv, hs⟩
     clear ho hall hl hQ
     generalize (JqdO g C cx cy hf lv o c base Lz Wd w0 a0) (lq.setIfInBounds 5 true) = K at hK ⊢
     clear hJ2 hS z1 z2 z3 z4 z6 z7
     go_simp
     exact hK _ _ z5 (fun _ _ h => h) rfl (hq _)
   | 6, ho =>
     cases ho
     refine wpOp_of rfl rfl ?_
     have f5 : (aq.tmps.getD 49 undef) = .pointer (some ⟨g, 3, none⟩) := z6 5 49 (hall { on := 5, ground := Ground.data } (by simp) rfl) rfl
     have hq := fun (v : Value) => hs.quiet 6 50 v (by decide) hl (by decide) (by decide)
     have hK := fun (v : Value) (W2 : World) hW hT hv (hs : SqdO g C cx cy hf lv o c base Lz Wd (lq.setIfInBounds 6 true) (aq.put (some 50) v) W2) => show (JqdO g C cx cy hf lv o c base Lz Wd w0 a0) (lq.setIfInBounds 6 true) (aq.put (some 50) v) W2 from ⟨hJ2.put hS 6 50 rfl (by omega) (W' := W2) hW hT v hv, hs⟩
     clear ho hall hl hQ
     generalize (JqdO g C cx cy hf lv o c base Lz Wd w0 a0) (lq.setIfInBounds 6 true) = K at hK ⊢
     clear hJ2 hS z1 z2 z3 z4 z6 z7
     go_simp
     exact hK _ _ z5 (fun _ _ h => h) rfl (hq _)
   | 7, ho =>
     cases ho
     refine wpOp_of rfl rfl ?_
     have f6 : (aq.tmps.getD 50 undef) = .int .i64 lv := z6 6 50 (hall { on := 6, ground := Ground.data } (by simp) rfl) rfl
     have hq := fun (v : Value) => hs.quiet 7 51 v (by decide) hl (by decide) (by decide)
     have hw : IntKind.i64.wrap (lv + 1) = lv + 1 := by rw [IntKind.wrap_i64]; omega
     have hK := fun (v : Value) (W2 : World) hW hT hv (hs : SqdO g C cx cy hf lv o c base Lz Wd (lq.setIfInBounds 7 true) (aq.put (some 51) v) W2) => show (JqdO g C cx cy hf lv o c base Lz Wd w0 a0) (lq.setIfInBounds 7 true) (aq.put (some 51) v) W2 from ⟨hJ2.put hS 7 51 rfl (by omega) (W' := W2) hW hT v hv, hs⟩
     clear ho hall hl hQ
     generalize (JqdO g C cx cy hf lv o c base Lz Wd w0 a0) (lq.setIfInBounds 7 true) = K at hK ⊢
     clear hJ2 hS z1 z2 z3 z4 z6 z7
     go_simp
     exact hK _ _ z5 (fun _ _ h => h) rfl (hq _)
   | 8, ho =>
     cases ho
     refine wpOp_of rfl rfl ?_
     have f1 : (aq.tmps.getD 45 undef) = Sp cx cy := z6 1 45 (hall { on := 1, ground := Ground.data } (by simp) rfl) rfl
     have f2 : (aq.tmps.getD 46 undef) = .int .i64 hf := z6 2 46 (hall { on := 2, ground := Ground.data } (by simp) rfl) rfl
     have f7 : (aq.tmps.getD 51 undef) = .int .i64 (lv + 1) := z6 7 51 (hall { on := 7, ground := Ground.data } (by simp) rfl) rfl
     have hq := fun (v : Value) => hs.put8 v hl (hall { on := 1, ground := Ground.data } (by simp) rfl)
     rw [Array.getD_eq_getD_getElem?] at f1 f2 f7
     have hK := fun (v : Value) (W2 : World) hW hT hv (hs : SqdO g C cx cy hf lv o c base Lz Wd (lq.setIfInBounds 8 true) (aq.put (some 52) v) W2) => show (JqdO g C cx cy hf lv o c base Lz Wd w0 a0) (lq.setIfInBounds 8 true) (aq.put (some 52) v) W2 from ⟨hJ2.put hS 8 52 rfl (by omega) (W' := W2) hW hT v hv, hs⟩
     clear ho hall hl hQ
     generalize (JqdO g C cx cy hf lv o c base Lz Wd w0 a0) (lq.setIfInBounds 8 true) = K at hK ⊢
     clear hJ2 hS z1 z2 z3 z4 z6 z7
     go_simp
     exact hK _ _ z5 (fun _ _ h => h) rfl (hq _)
   | 9, ho =>
     cases ho
     refine wpOp_of rfl rfl ?_
     have f8 : (aq.tmps.getD 52 undef) = .agg #[.int .i64 cx, .int .i64 cy, .int .i64 hf, .int .i64 (lv + 1), .slice none 0 0, .slice none 0 0] := z6 8 52 (hall { on := 8, ground := Ground.data } (by simp) rfl) rfl
     have h9 := getD_tf hl
     have eW : W = Wd := hs.1.w0 h9
     have hq : ∀ u : Value, SqdO g C cx cy hf lv o c base Lz Wd (lq.setIfInBounds 9 true) (aq.put (some 53) u) (W.alloc (.cells #[.int .i64 cx, .int .i64 cy, .int .i64 hf, .int .i64 (lv + 1), .slice none 0 0, .slice none 0 0] 99)) := fun u => hs.put9 hl (hall { on := 8, ground := Ground.data } (by simp) rfl) (u := u) (by
       have H := hs.1
       have h10 : lq.getD 10 false = false := by cases e : lq.getD 10 false with | false => rfl | true => have := H.o1 e; rw [h9] at this; cases this
       have h11 : lq.getD 11 false = false := by cases e : lq.getD 11 false with | false => rfl | true => have := H.o2 e; rw [h10] at this; cases this
       rw [h10, h11, hs.off (i := 9) (by decide) hl]
       exact ⟨(fun a => by cases a), fun _ _ => by rw [eW], (fun a => by cases a), (fun a => by cases a), (fun a => by cases a), (fun a => by cases a), (fun a => by cases a), fun _ => H.k (hs.off (i := 9) (by decide) hl), (fun a => by cases a)⟩)
     have hp : Hid (W.heap.size = Wd.heap.size) := congrArg (fun w : World => w.heap.size) eW
     rw [Array.getD_eq_getD_getElem?] at f8
     clear eW hWe hs
     have hK := fun (v : Value) (W2 : World) hW hT hv (hs : SqdO g C cx cy hf lv o c base Lz Wd (lq.setIfInBounds 9 true) (aq.put (some 53) v) W2) => show (JqdO g C cx cy hf lv o c base Lz Wd w0 a0) (lq.setIfInBounds 9 true) (aq.put (some 53) v) W2 from ⟨hJ2.put hS 9 53 rfl (by omega) (W' := W2) hW hT v hv, hs⟩
     clear ho hall hl hQ
     generalize (JqdO g C cx cy hf lv o c base Lz Wd w0 a0) (lq.setIfInBounds 9 true) = K at hK ⊢
     clear hJ2 hS z1 z2 z3 z4 z6 z7
     go_simp
     exact hK _ _ (z5.alloc (by have := z5.size; omega) _) (fun _ _ h => h.same) (by show Value.pointer _ = _; rw [hp.out]) (hq _)
   | 10, ho =>
     cases ho
     refine wpOp_of rfl rfl ?_
     have f9 : (aq.tmps.getD 53 undef) = .pointer (some ⟨Wd.heap.size, 0, none⟩) := z6 9 53 (hall { on := 9, ground := Ground.data } (by simp) rfl) rfl
     have l9 := hall { on := 9, ground := Ground.data } (by simp) rfl
     have h10 := getD_tf hl
     have eW : W = (Wd.alloc (.cells #[.int .i64 cx, .int .i64 cy, .int .i64 hf, .int .i64 (lv + 1), .slice none 0 0, .slice none 0 0] 99)) := hs.1.w1 l9 h10
     have hq : ∀ u : Value, SqdO g C cx cy hf lv o c base Lz Wd (lq.setIfInBounds 10 true) (aq.put (some 54) u) (W.alloc (.cells #[.pointer (some ⟨Wd.heap.size, 0, none⟩)] 63)) := fun u => hs.put10 hl (u := u) (by
       have H := hs.1
       have h11 : lq.getD 11 false = false := by cases e : lq.getD 11 false with | false => rfl | true => have := H.o2 e; rw [h10] at this; cases this
       rw [l9, h11, hs.off (i := 10) (by decide) hl]
       exact ⟨(fun a => by cases a), (fun _ a => by cases a), fun _ _ => by rw [eW], (fun a => by cases a), fun _ => rfl, (fun a => by cases a), (fun a => by cases a), fun _ => H.k (hs.off (i := 10) (by decide) hl), (fun a => by cases a)⟩)
     have hp : Hid (W.heap.size = Wd.heap.size + 1) := by show _ = _; rw [eW]; simp
     rw [Array.getD_eq_getD_getElem?] at f9
     clear eW hWe hs
     have hK := fun (v : Value) (W2 : World) hW hT hv (hs : SqdO g C cx cy hf lv o c base Lz Wd (lq.setIfInBounds 10 true) (aq.put (some 54) v) W2) => show (JqdO g C cx cy hf lv o c base Lz Wd w0 a0) (lq.setIfInBounds 10 true) (aq.put (some 54) v) W2 from ⟨hJ2.put hS 10 54 rfl (by omega) (W' := W2) hW hT v hv, hs⟩
     clear ho hall hl hQ
     generalize (JqdO g C cx cy hf lv o c base Lz Wd w0 a0) (lq.setIfInBounds 10 true) = K at hK ⊢
     clear hJ2 hS z1 z2 z3 z4 z6 z7
     go_simp
     exact hK _ _ (z5.alloc (by have := z5.size; omega) _) (fun _ _ h => h.same) (by show Value.slice _ _ _ = _; rw [hp.out]) (hq _)
   | 11, ho =>
     cases ho
     refine wpOp_of rfl rfl ?_
     have f0 : (aq.tmps.getD 44 undef) = o := z6 0 44 (hall { on := 0, ground := Ground.data } (by simp) rfl) rfl
     have f10 : (aq.tmps.getD 54 undef) = .slice (some ⟨Wd.heap.size + 1, 0, none⟩) 1 1 := z6 10 54 (hall { on := 10, ground := Ground.data } (by simp) rfl) rfl
     have l10 := hall { on := 10, ground := Ground.data } (by simp) rfl
     have h11 := getD_tf hl
     have eW : W = ((Wd.alloc (.cells #[.int .i64 cx, .int .i64 cy, .int .i64 hf, .int .i64 (lv + 1), .slice none 0 0, .slice none 0 0] 99)).alloc (.cells #[.pointer (some ⟨Wd.heap.size, 0, none⟩)] 63)) := hs.1.w2 l10 h11
     have l9 := hs.1.o1 l10
     have hq : ∀ (u : Value) (X : World), X.ownsRow base 63 1 u (c + 1) (Lz ++ [.pointer (some ⟨Wd.heap.size, 0, none⟩)]) → W.grownBy X o.ownBlock → (u.ownBlock = o.ownBlock ∨ u.ownBlock = some W.heap.size) → SqdO g C cx cy hf lv o c base Lz Wd (lq.setIfInBounds 11 true) (aq.put (some 55) u) X := fun u X r1 r2 r3 => hs.put11 hl (by rw [z2, hz]; decide) (u := u) (by
       have H := hs.1
       rw [eW] at r2 r3
       rw [l9, l10, hs.off (i := 11) (by decide) hl]
       exact ⟨(fun a => by cases a), (fun _ a => by cases a), (fun _ a => by cases a), fun _ => ⟨r1, r2, r3⟩, fun _ => rfl, fun _ => rfl, (fun a => by cases a), fun _ => H.k (hs.off (i := 11) (by decide) hl), (fun a => by cases a)⟩)
     have hown : W.ownsRow base 63 1 o c Lz := by rw [eW]; exact ownA_step (hWe ▸ hown0) (((Below.refl _ Wd).alloc (Nat.le_refl _) _).alloc (by simp) _)
     have hcl : W.cell? ⟨Wd.heap.size + 1, 0, none⟩ = some (.pointer (some ⟨Wd.heap.size, 0, none⟩)) := by rw [eW]; exact (Blk.new (Wd.alloc (.cells #[.int .i64 cx, .int .i64 cy, .int .i64 hf, .int .i64 (lv + 1), .slice none 0 0, .slice none 0 0] 99)) [.pointer (some ⟨Wd.heap.size, 0, none⟩)] 63 (g := Wd.heap.size + 1) (by simp)).c 0 rfl
     have hbs : base ≤ W.heap.size := by have := z5.size; omega
     clear eW hWe hs
     have hK := fun (v : Value) (W2 : World) hW hT hv (hs : SqdO g C cx cy hf lv o c base Lz Wd (lq.setIfInBounds 11 true) (aq.put (some 55) v) W2) => show (JqdO g C cx cy hf lv o c base Lz Wd w0 a0) (lq.setIfInBounds 11 true) (aq.put (some 55) v) W2 from ⟨hJ2.put hS 11 55 rfl (by omega) (W' := W2) hW hT v hv, hs⟩
     clear ho hall hl hQ
     generalize (JqdO g C cx cy hf lv o c base Lz Wd w0 a0) (lq.setIfInBounds 11 true) = K at hK ⊢
     clear hJ2 hS z1 z2 z3 z4 z6 z7
     refine wp_append_q (Operand.tmp 44) (Operand.tmp 54) 97 rfl base 63 i0 (.pointer none) 1 8 Try.underlying97 hi0 hz0 hz1 hz2 rfl (by decide) _ c _ f0 hown ⟨Wd.heap.size + 1, 0, none⟩ 1 1 [.pointer (some ⟨Wd.heap.size, 0, none⟩)] f10 rfl (fun j u hj => by rw [Addr.add_lit, Nat.zero_add]; match j, hj with | 0, hj => cases hj; exact hcl | j + 1, hj => simp at hj) (fun u hu => by simp only [List.mem_singleton] at hu; subst hu; rfl) (by unfold maxLen; omega) (by omega) hbs ?_
     intro v1 X r1 r2 r3
     exact hK _ _ (z5.grown r2 hbs (fun k hk => (hown.lt k hk).1)) (fun _ _ h => h.same) trivial (hq _ _ r1 r2 r3)
   | 12, ho =>
     cases ho
     refine wpOp_of rfl rfl ?_
     have f11 : True := z6 11 55 (hall { on := 11, ground := Ground.data } (by simp) rfl) rfl
     have hq : SqdO g C cx cy hf lv o c base Lz Wd (lq.setIfInBounds 12 true) (aq.put (some 4) (aq.tmps.getD 55 undef)) W := hs.put12 hl (by rw [z2, hz]; decide) (fun j hj hn => match j, hj, hn with | 0, _, _ => hall { on := 0, ground := Ground.phase } (by simp) rfl | 1, _, _ => hall { on := 1, ground := Ground.phase } (by simp) rfl | 2, _, _ => hall { on := 2, ground := Ground.phase } (by simp) rfl | 3, _, _ => hall { on := 3, ground := Ground.phase } (by simp) rfl | 4, _, _ => hall { on := 4, ground := Ground.phase } (by simp) rfl | 5, _, _ => hall { on := 5, ground := Ground.phase } (by simp) rfl | 6, _, _ => hall { on := 6, ground := Ground.phase } (by simp) rfl | 7, _, _ => hall { on := 7, ground := Ground.phase } (by simp) rfl | 8, _, _ => hall { on := 8, ground := Ground.phase } (by simp) rfl | 9, _, _ => hall { on := 9, ground := Ground.phase } (by simp) rfl | 10, _, _ => hall { on := 10, ground := Ground.phase } (by simp) rfl | 11, _, _ => hall { on := 11, ground := Ground.data } (by simp) rfl | 12, _, hn => absurd rfl hn | j + 13, hj, _ => absurd hj (by omega))
     clear hs hWe
     have hK := fun (v : Value) (W2 : World) hW hT hv (hs : SqdO g C cx cy hf lv o c base Lz Wd (lq.setIfInBounds 12 true) (aq.put (some 4) v) W2) => show (JqdO g C cx cy hf lv o c base Lz Wd w0 a0) (lq.setIfInBounds 12 true) (aq.put (some 4) v) W2 from ⟨hJ2.put hS 12 4 rfl (by omega) (W' := W2) hW hT v hv, hs⟩
     clear ho hall hl hQ
     generalize (JqdO g C cx cy hf lv o c base Lz Wd w0 a0) (lq.setIfInBounds 12 true) = K at hK ⊢
     clear hJ2 hS z1 z2 z3 z4 z6 z7
     rw [Array.getD_eq_getD_getElem?] at hq
     go_simp
     exact hK _ _ z5 (fun _ _ h => h) trivial hq
   | iq + 13, ho => simp at ho
 · intro lq aq W ⟨hJ, hs⟩ hr
   obtain ⟨z1, z2, z3, z4, z5, z6, z7⟩ := hJ
   have hl := listed_of hr [0, 1, 2, 3, 4, 5, 6, 7, 8, 9, 10, 11, 12] [] (by simp) (by kernel_rfl) (by rw [z1]; decide)
   exact hQ aq W z2 z3 (fun e he => z4 e (by simpa using he)) (z6 12 4 (hl 12 (by simp)) rfl) z5 (by have h12 := hl 12 (by simp); rw [hs.1.e h12]; exact hs.1.r (hs.1.o3 h12))
end Go.Proofs.Ythelolpogdcmhaa
