/- Part 20 of the walks that the proof leans on. -/
import Derived.Test.YtibbjjlapglndaaGreatRs19
import Derived.Test.YtibbjjlapglndaaGreatRs9
import Derived.Test.YtibbjjlapglndaaGreatRs8
import Derived.Test.YtibbjjlapglndaaGreatRs15
import Derived.SizedLaws
import Derived.Deep.Slices
import Derived.Test.YtibbjjlapglndaaGreatRows
import Derived.ProofKit
import Derived.Lib.SmallJoins
namespace Go.Proofs.YtibbjjlapglndaaGreat
open Go.RowKit
def rsV (n : Nat) (p : Ps) (x y z : Int) : Int := if rgF n p = 0 ∧ ptB x y z = true then sdR n p x y z else 2
theorem ring_point (w : World) (a : Value) (x y z : Int) (T U : TypeId) : ArgsB w ((w.alloc (.cells #[a] T)).alloc (.cells #[.int .u64 (ww3 x), .int .u64 (ww2 x), .int .u64 (ww1 x), .int .u64 (ww0 x), .int .u64 (ww3 y), .int .u64 (ww2 y), .int .u64 (ww1 y), .int .u64 (ww0 y), .int .u64 (ww3 z), .int .u64 (ww2 z), .int .u64 (ww1 z), .int .u64 (ww0 z)] U)) [[a], [.int .u64 (ww3 x), .int .u64 (ww2 x), .int .u64 (ww1 x), .int .u64 (ww0 x), .int .u64 (ww3 y), .int .u64 (ww2 y), .int .u64 (ww1 y), .int .u64 (ww0 y), .int .u64 (ww3 z), .int .u64 (ww2 z), .int .u64 (ww1 z), .int .u64 (ww0 z)]] := by
 refine ⟨((Below.refl _ _).alloc (Nat.le_refl _) _).alloc (by simp) _, fun j vs hj => ?_⟩
 match j, hj with
 | 0, hj => cases hj; exact (Blk.new w [a] T rfl).alloc _
 | 1, hj => cases hj; exact Blk.new (w.alloc (.cells #[a] T)) [.int .u64 (ww3 x), .int .u64 (ww2 x), .int .u64 (ww1 x), .int .u64 (ww0 x), .int .u64 (ww3 y), .int .u64 (ww2 y), .int .u64 (ww1 y), .int .u64 (ww0 y), .int .u64 (ww3 z), .int .u64 (ww2 z), .int .u64 (ww1 z), .int .u64 (ww0 z)] U (by simp)
 | j + 2, hj => simp at hj
def VregSpecSide (ao : Option Addr) (n cap : Nat) (p : Ps) (x y z : Int) (_B : Nat) : Nat → Value → World → Prop
 | 0, v, _ => v = .agg #[.slice ao n cap]
 | 1, v, _ => v = PV x y z
 | 2, v, W => L3W x y z v W
 | 3, v, _ => v = .int .i64 (sdR n p x y z)
 | 4, v, _ => v = .int .i64 (sdR n p x y z)
 | _, _, _ => True
theorem VregSpecSide.mono {ao : Option Addr} {n cap : Nat} {p : Ps} {x y z : Int} {B j : Nat} {v : Value} {W W2 : World} (hB : Below W.heap.size W W2) (h : VregSpecSide ao n cap p x y z B j v W) : VregSpecSide ao n cap p x y z B j v W2 := by
 unfold VregSpecSide at *
 split <;> simp only at h <;> first | exact h | exact h.step hB | trivial
set_option maxRecDepth 100000 in
set_option maxHeartbeats 4000000 in
theorem regSpecSide {Q : Exit → Act → World → Prop} {ao : Option Addr} {n cap : Nat} {p : Ps} {x y z : Int} {B1 B2 : Nat} {w0 : World} {a0 : Act} {idq : Nat} {t0 t1 t2 t3 t4 : TypeId} {q0 q1 q2 q3 q4 : String}
   (hp : RgOk n p) (hS : SpIn w0 ao n p) (tx : told x = true) (ty : told y = true) (tz : told z = true) (h2 : a0.tmps[2]? = some (.pointer (some ⟨B1, 0, none⟩))) (h3 : a0.tmps[3]? = some (.pointer (some ⟨B2, 0, none⟩))) (k0 : w0.cell? ⟨B1, 0, none⟩ = some (.slice ao n cap)) (l0 : (⟨B1, 0, none⟩ : Addr).block < w0.heap.size) (k1 : w0.cell? ⟨B2, 0, none⟩ = some (.int .u64 (ww3 x))) (l1 : (⟨B2, 0, none⟩ : Addr).block < w0.heap.size) (k2 : w0.cell? ⟨B2, 1, none⟩ = some (.int .u64 (ww2 x))) (l2 : (⟨B2, 1, none⟩ : Addr).block < w0.heap.size) (k3 : w0.cell? ⟨B2, 2, none⟩ = some (.int .u64 (ww1 x))) (l3 : (⟨B2, 2, none⟩ : Addr).block < w0.heap.size) (k4 : w0.cell? ⟨B2, 3, none⟩ = some (.int .u64 (ww0 x))) (l4 : (⟨B2, 3, none⟩ : Addr).block < w0.heap.size) (k5 : w0.cell? ⟨B2, 4, none⟩ = some (.int .u64 (ww3 y))) (l5 : (⟨B2, 4, none⟩ : Addr).block < w0.heap.size) (k6 : w0.cell? ⟨B2, 5, none⟩ = some (.int .u64 (ww2 y))) (l6 : (⟨B2, 5, none⟩ : Addr).block < w0.heap.size) (k7 : w0.cell? ⟨B2, 6, none⟩ = some (.int .u64 (ww1 y))) (l7 : (⟨B2, 6, none⟩ : Addr).block < w0.heap.size) (k8 : w0.cell? ⟨B2, 7, none⟩ = some (.int .u64 (ww0 y))) (l8 : (⟨B2, 7, none⟩ : Addr).block < w0.heap.size) (k9 : w0.cell? ⟨B2, 8, none⟩ = some (.int .u64 (ww3 z))) (l9 : (⟨B2, 8, none⟩ : Addr).block < w0.heap.size) (k10 : w0.cell? ⟨B2, 9, none⟩ = some (.int .u64 (ww2 z))) (l10 : (⟨B2, 9, none⟩ : Addr).block < w0.heap.size) (k11 : w0.cell? ⟨B2, 10, none⟩ = some (.int .u64 (ww1 z))) (l11 : (⟨B2, 10, none⟩ : Addr).block < w0.heap.size) (k12 : w0.cell? ⟨B2, 11, none⟩ = some (.int .u64 (ww0 z))) (l12 : (⟨B2, 11, none⟩ : Addr).block < w0.heap.size) (hz : a0.tmps.size = 17)
   (hQ : ∀ aq W, aq.tmps.size = a0.tmps.size → aq.defers = a0.defers → (∀ e, e ∉ ([13, 14, 15, 16, 4] : List Nat) → aq.tmps[e]? = a0.tmps[e]?) → VregSpecSide ao n cap p x y z w0.heap.size 4 (aq.tmps.getD 4 undef) W → Below w0.heap.size w0 W → Q .normal aq W) :
   (Code.region idq #[{ dst := some 13, op := Op.load 34 (Operand.tmp 2), type := t0, pos := q0, after := #[], guard := none },
   { dst := some 14, op := Op.load 38 (Operand.tmp 3), type := t1, pos := q1, after := #[], guard := none },
   { dst := some 15, op := Op.call { callee := Callee.value (Operand.func 29), args := #[Operand.tmp 14], argTypes := #[38] }, type := t2, pos := q2, after := #[{ on := 1, ground := Ground.data }], guard := none },
   { dst := some 16, op := Op.call { callee := Callee.value (Operand.func 28), args := #[Operand.tmp 13, Operand.tmp 15], argTypes := #[34, 62] }, type := t3, pos := q3, after := #[{ on := 0, ground := Ground.data }, { on := 2, ground := Ground.data }, { on := 2, ground := Ground.chain }], guard := none },
   { dst := some 4, op := Op.assign (Operand.tmp 16), type := t4, pos := q4, after := #[{ on := 3, ground := Ground.data }, { on := 3, ground := Ground.chain }, { on := 0, ground := Ground.phase }, { on := 1, ground := Ground.phase }, { on := 2, ground := Ground.phase }, { on := 3, ground := Ground.phase }], guard := none }] true).wp Tryz.prog Q a0 w0 := by
 have hS : distS [some 13, some 14, some 15, some 16, some 4] = true := rfl
 refine wp_region_q (by kernel_rfl) w0.heap.size [some 13, some 14, some 15, some 16, some 4] (VregSpecSide ao n cap p x y z w0.heap.size) rfl ?_ ?_
 · intro Q lq aq W iq oq hJ hl ho hall
   have hJ2 := hJ
   obtain ⟨z1, z2, z3, z4, z5, z6, z7⟩ := hJ
   have g2 : aq.tmps.getD 2 undef = .pointer (some ⟨B1, 0, none⟩) := by rw [Array.getD_eq_getD_getElem?, z4 2 (by decide), h2]; rfl
   have g3 : aq.tmps.getD 3 undef = .pointer (some ⟨B2, 0, none⟩) := by rw [Array.getD_eq_getD_getElem?, z4 3 (by decide), h3]; rfl
   have c0 : W.cell? ⟨B1, 0, none⟩ = some (.slice ao n cap) := (z5.cell l0).trans k0
   have c1 : W.cell? ⟨B2, 0, none⟩ = some (.int .u64 (ww3 x)) := (z5.cell l1).trans k1
   have c2 : W.cell? ⟨B2, 1, none⟩ = some (.int .u64 (ww2 x)) := (z5.cell l2).trans k2
   have c3 : W.cell? ⟨B2, 2, none⟩ = some (.int .u64 (ww1 x)) := (z5.cell l3).trans k3
   have c4 : W.cell? ⟨B2, 3, none⟩ = some (.int .u64 (ww0 x)) := (z5.cell l4).trans k4
   have c5 : W.cell? ⟨B2, 4, none⟩ = some (.int .u64 (ww3 y)) := (z5.cell l5).trans k5
   have c6 : W.cell? ⟨B2, 5, none⟩ = some (.int .u64 (ww2 y)) := (z5.cell l6).trans k6
   have c7 : W.cell? ⟨B2, 6, none⟩ = some (.int .u64 (ww1 y)) := (z5.cell l7).trans k7
   have c8 : W.cell? ⟨B2, 7, none⟩ = some (.int .u64 (ww0 y)) := (z5.cell l8).trans k8
   have c9 : W.cell? ⟨B2, 8, none⟩ = some (.int .u64 (ww3 z)) := (z5.cell l9).trans k9
   have c10 : W.cell? ⟨B2, 9, none⟩ = some (.int .u64 (ww2 z)) := (z5.cell l10).trans k10
   have c11 : W.cell? ⟨B2, 10, none⟩ = some (.int .u64 (ww1 z)) := (z5.cell l11).trans k11
   have c12 : W.cell? ⟨B2, 11, none⟩ = some (.int .u64 (ww0 z)) := (z5.cell l12).trans k12
   match iq, ho with
   | 0, ho =>
     cases ho
     refine wpOp_of rfl rfl ?_
     have hK := fun (v : Value) (W2 : World) hW hT hv => hJ2.put hS 0 13 rfl (by omega) (W' := W2) hW hT v hv
     clear ho hall hl hQ
     generalize InvQ w0.heap.size [some 13, some 14, some 15, some 16, some 4] (VregSpecSide ao n cap p x y z w0.heap.size) w0 a0 (lq.setIfInBounds 0 true) = K at hK ⊢
     clear hJ2 hS z1 z2 z3 z4 z6 z7
     go_simp
     exact hK _ _ z5 (fun _ _ h => h) rfl
   | 1, ho =>
     cases ho
     refine wpOp_of rfl rfl ?_
     have hK := fun (v : Value) (W2 : World) hW hT hv => hJ2.put hS 1 14 rfl (by omega) (W' := W2) hW hT v hv
     clear ho hall hl hQ
     generalize InvQ w0.heap.size [some 13, some 14, some 15, some 16, some 4] (VregSpecSide ao n cap p x y z w0.heap.size) w0 a0 (lq.setIfInBounds 1 true) = K at hK ⊢
     clear hJ2 hS z1 z2 z3 z4 z6 z7
     go_simp
     exact hK _ _ z5 (fun _ _ h => h) rfl
   | 2, ho =>
     cases ho
     refine wpOp_of rfl rfl ?_
     have f1 : (aq.tmps.getD 14 undef) = PV x y z := z6 1 14 (hall { on := 1, ground := Ground.data } (by simp) rfl) rfl
     have hK := fun (v : Value) (W2 : World) hW hT hv => hJ2.put hS 2 15 rfl (by omega) (W' := W2) hW hT v hv
     clear ho hall hl hQ
     generalize InvQ w0.heap.size [some 13, some 14, some 15, some 16, some 4] (VregSpecSide ao n cap p x y z w0.heap.size) w0 a0 (lq.setIfInBounds 2 true) = K at hK ⊢
     clear hJ2 hS z1 z2 z3 z4 z6 z7
     go_simp
     refine (l3Of_det x y z tx ty tz W).mono ?_
     rintro e v1 ⟨s1, o1, n1, m1, e1, s2, o2, n2, m2, e2, s3, o3, n3, m3, e3, rfl, N1, N2, N3, hBv⟩
     exact hK _ _ (z5.trans (hBv.mono z5.size)) (fun j v h => h.mono hBv) ⟨_, _, _, _, _, _, _, _, _, _, _, _, _, _, _, rfl, N1, N2, N3⟩
   | 3, ho =>
     cases ho
     refine wpOp_of rfl rfl ?_
     have f0 : (aq.tmps.getD 13 undef) = .agg #[.slice ao n cap] := z6 0 13 (hall { on := 0, ground := Ground.data } (by simp) rfl) rfl
     have f2 : L3W x y z (aq.tmps.getD 15 undef) W := z6 2 15 (hall { on := 2, ground := Ground.data } (by simp) rfl) rfl
     obtain ⟨rs1, ro1, rn1, rc1, rd1, rs2, ro2, rn2, rc2, rd2, rs3, ro3, rn3, rc3, rd3, re, R1, R2, R3⟩ := f2
     have hK := fun (v : Value) (W2 : World) hW hT hv => hJ2.put hS 3 16 rfl (by omega) (W' := W2) hW hT v hv
     clear ho hall hl hQ
     generalize InvQ w0.heap.size [some 13, some 14, some 15, some 16, some 4] (VregSpecSide ao n cap p x y z w0.heap.size) w0 a0 (lq.setIfInBounds 3 true) = K at hK ⊢
     clear hJ2 hS z1 z2 z3 z4 z6 z7
     go_simp
     refine (l5In_any ao n cap p rs1 rs2 rs3 ro1 ro2 ro3 rn1 rc1 rn2 rc2 rn3 rc3 rd1 rd2 rd3 x y z hp W (hS.step z5) R1 R2 R3).mono ?_
     rintro e v1 ⟨rfl, hBv⟩
     exact hK _ _ (z5.trans (hBv.mono z5.size)) (fun j v h => h.mono hBv) rfl
   | 4, ho =>
     cases ho
     refine wpOp_of rfl rfl ?_
     have f3 : (aq.tmps.getD 16 undef) = .int .i64 (sdR n p x y z) := z6 3 16 (hall { on := 3, ground := Ground.data } (by simp) rfl) rfl
     have hK := fun (v : Value) (W2 : World) hW hT hv => hJ2.put hS 4 4 rfl (by omega) (W' := W2) hW hT v hv
     clear ho hall hl hQ
     generalize InvQ w0.heap.size [some 13, some 14, some 15, some 16, some 4] (VregSpecSide ao n cap p x y z w0.heap.size) w0 a0 (lq.setIfInBounds 4 true) = K at hK ⊢
     clear hJ2 hS z1 z2 z3 z4 z6 z7
     go_simp
     exact hK _ _ z5 (fun _ _ h => h) rfl
   | iq + 5, ho => simp at ho
 · intro lq aq W hJ hr
   obtain ⟨z1, z2, z3, z4, z5, z6, z7⟩ := hJ
   have hl := listed_of hr [0, 1, 2, 3, 4] [] (by simp) (by kernel_rfl) (by rw [z1]; decide)
   exact hQ aq W z2 z3 (fun e he => z4 e (by simpa using he)) (z6 4 4 (hl 4 (by simp)) rfl) z5
set_option maxRecDepth 100000 in
set_option maxHeartbeats 8000000 in
theorem specRingSide_any (ao : Option Addr) (n cap : Nat) (p : Ps) (x y z : Int) (hn : n ≤ 1048576) (tx : told x = true) (ty : told y = true) (tz : told z = true) (w : World) (hS : SpIn w ao n p) : Calls Tryz.prog 9 #[.agg #[.slice ao n cap], PV x y z] w (VP (.int .i64 (rsV n p x y z)) w) := by
 have T0 := ring_point w (.slice ao n cap) x y z 34 38
 have HP : Hid (SpIn w ao n p) := hS
 have O1 := fun w h => l5OkD_any ao n cap p hn w h
 have O2 := specPointOk_det x y z tx ty tz
 have hv : Hid (rsV n p x y z = if rgF n p = 0 ∧ ptB x y z = true then sdR n p x y z else 2) := rfl
 clear hS
 generalize rsV n p x y z = o at *
 have X0 : Blk _ w.heap.size _ := T0.b 0 rfl; have a0 := X0.c 0 rfl
 go_enter Tryz.func9, Tryz.ntmps9
 go_upto_region 1 with fail
 generalize ((w.alloc (.cells #[.slice ao n cap] 34)).alloc (.cells #[.int .u64 (ww3 x), .int .u64 (ww2 x), .int .u64 (ww1 x), .int .u64 (ww0 x), .int .u64 (ww3 y), .int .u64 (ww2 y), .int .u64 (ww1 y), .int .u64 (ww0 y), .int .u64 (ww3 z), .int .u64 (ww2 z), .int .u64 (ww1 z), .int .u64 (ww0 z)] 38)) = W at *
 go_wp2_with fail
 refine (O1 _ (HP.out.step T0.below)).mono ?_
 rintro e w1 ⟨rfl, hB⟩
 replace T0 := T0.step hB
 clear hB X0 a0 O1
 by_cases h1 : rgF n p = 0
 · rw [decide_eq_true h1]
   have H1 : Hid (rgF n p = 0) := h1
   clear h1
   have X1 : Blk _ (w.heap.size + 1) _ := T0.b 1 rfl; have b0 := X1.c 0 rfl; have b1 := X1.c 1 rfl; have b2 := X1.c 2 rfl; have b3 := X1.c 3 rfl; have b4 := X1.c 4 rfl; have b5 := X1.c 5 rfl; have b6 := X1.c 6 rfl; have b7 := X1.c 7 rfl; have b8 := X1.c 8 rfl; have b9 := X1.c 9 rfl; have b10 := X1.c 10 rfl; have b11 := X1.c 11 rfl
   go_wp2_with fail
   refine (O2 _).mono ?_
   rintro e w2 ⟨rfl, hB⟩
   replace T0 := T0.step hB
   clear hB X1 b0 b1 b2 b3 b4 b5 b6 b7 b8 b9 b10 b11 O2
   by_cases h2 : ptB x y z = true
   · rw [h2]
     have hv2 : Hid (o = sdR n p x y z) := by show _ = _; rw [hv.out, if_pos ⟨H1.out, h2⟩]
     have H2 : Hid (ptB x y z = true) := h2
     clear h2 hv
     have X0 : Blk _ w.heap.size _ := T0.b 0 rfl; have X1 : Blk _ (w.heap.size + 1) _ := T0.b 1 rfl
     go_upto_region 3 with fail
     go_cut [4] (fun zv wx => zv = .int .i64 (sdR n p x y z) ∧ Below w2.heap.size w2 wx)
     case first =>
       refine regSpecSide (ao := ao) (n := n) (cap := cap) (p := p) (x := x) (y := y) (z := z) (B1 := w.heap.size) (B2 := w.heap.size + 1) (rgF_ok H1.out) (HP.out.step T0.below) tx ty tz rfl rfl (X0.c 0 rfl) X0.lt (X1.c 0 rfl) X1.lt (X1.c 1 rfl) X1.lt (X1.c 2 rfl) X1.lt (X1.c 3 rfl) X1.lt (X1.c 4 rfl) X1.lt (X1.c 5 rfl) X1.lt (X1.c 6 rfl) X1.lt (X1.c 7 rfl) X1.lt (X1.c 8 rfl) X1.lt (X1.c 9 rfl) X1.lt (X1.c 10 rfl) X1.lt (X1.c 11 rfl) X1.lt rfl ?_
       rintro ⟨tm, df⟩ Wz hz hdf hoff h4 hBz
       simp only at hz hdf hoff h4
       change tm.getD 4 undef = .int .i64 (sdR n p x y z) at h4
       subst hdf
       have htm := tmps_fold [13, 14, 15, 16, 4] tm _ hz hoff
       simp only [List.foldl, List.setIfInBounds_toArray, List.set_cons_zero, List.set_cons_succ, h4] at htm
       clear hz hoff
       generalize tm.getD 13 undef = u0, tm.getD 14 undef = u1, tm.getD 15 undef = u2, tm.getD 16 undef = u3 at htm
       clear h4
       subst htm
       go_wp2_with fail
       go_meet
       exact ⟨rfl, hBz⟩
     case rest =>
       obtain ⟨hq, hB⟩ := hcut
       subst hq
       have HB := (T0.step hB).below
       clear hB T0 X0 X1
       go_wp2
       go_ret
       exact ⟨by rw [hv2.out]; rfl, HB⟩
   · rw [Bool.eq_false_iff.2 h2]
     have hv2 : Hid (o = 2) := by show _ = _; rw [hv.out, if_neg (fun h => h2 h.2)]
     have HB := T0.below
     clear h2 hv T0
     go_wp2
     go_ret
     exact ⟨by rw [hv2.out]; rfl, HB⟩
 · rw [decide_eq_false h1]
   have hv2 : Hid (o = 2) := by show _ = _; rw [hv.out, if_neg (fun h => h1 h.1)]
   have HB := T0.below
   clear h1 hv T0 O2
   go_wp2
   go_ret
   exact ⟨by rw [hv2.out]; rfl, HB⟩
set_option maxRecDepth 100000 in
set_option maxHeartbeats 8000000 in
theorem implRingSide_any (ao : Option Addr) (n cap : Nat) (p : Ps) (x y z : Int) (hn : n ≤ 1048576) (hc1 : n ≤ cap) (hc2 : cap ≤ 9223372036854775807) (tx : told x = true) (ty : told y = true) (tz : told z = true) (w : World) (hS : SpIn w ao n p) : Calls Tryz.prog 12 #[.agg #[.slice ao n cap], PV x y z] w (VP (.int .i64 (rsV n p x y z)) w) := by
 have T0 := ring_point w (.slice ao n cap) x y z 34 38
 have HP : Hid (SpIn w ao n p) := hS
 have O1 := fun w h => rright_any ao n cap p hn hc1 hc2 w h
 have O2 := pright_det x y z tx ty tz
 have hv : Hid (rsV n p x y z = if rgF n p = 0 ∧ ptB x y z = true then sdR n p x y z else 2) := rfl
 clear hS
 generalize rsV n p x y z = o at *
 have X0 : Blk _ w.heap.size _ := T0.b 0 rfl; have a0 := X0.c 0 rfl
 go_enter Tryz.func12, Tryz.ntmps12
 go_upto_region 1 with fail
 generalize ((w.alloc (.cells #[.slice ao n cap] 34)).alloc (.cells #[.int .u64 (ww3 x), .int .u64 (ww2 x), .int .u64 (ww1 x), .int .u64 (ww0 x), .int .u64 (ww3 y), .int .u64 (ww2 y), .int .u64 (ww1 y), .int .u64 (ww0 y), .int .u64 (ww3 z), .int .u64 (ww2 z), .int .u64 (ww1 z), .int .u64 (ww0 z)] 38)) = W at *
 go_wp2_with fail
 refine (O1 _ (HP.out.step T0.below)).mono ?_
 rintro e w1 ⟨rfl, hB⟩
 replace T0 := T0.step hB
 clear hB X0 a0 O1
 by_cases h1 : rgF n p = 0
 · rw [decide_eq_true h1]
   have H1 : Hid (rgF n p = 0) := h1
   clear h1
   have X1 : Blk _ (w.heap.size + 1) _ := T0.b 1 rfl; have b0 := X1.c 0 rfl; have b1 := X1.c 1 rfl; have b2 := X1.c 2 rfl; have b3 := X1.c 3 rfl; have b4 := X1.c 4 rfl; have b5 := X1.c 5 rfl; have b6 := X1.c 6 rfl; have b7 := X1.c 7 rfl; have b8 := X1.c 8 rfl; have b9 := X1.c 9 rfl; have b10 := X1.c 10 rfl; have b11 := X1.c 11 rfl
   go_wp2_with fail
   refine (O2 _).mono ?_
   rintro e w2 ⟨rfl, hB⟩
   replace T0 := T0.step hB
   clear hB X1 b0 b1 b2 b3 b4 b5 b6 b7 b8 b9 b10 b11 O2
   by_cases h2 : ptB x y z = true
   · rw [h2]
     have hv2 : Hid (o = sdR n p x y z) := by show _ = _; rw [hv.out, if_pos ⟨H1.out, h2⟩]
     have H2 : Hid (ptB x y z = true) := h2
     clear h2 hv
     have X0 : Blk _ w.heap.size _ := T0.b 0 rfl; have X1 : Blk _ (w.heap.size + 1) _ := T0.b 1 rfl
     have a0 := X0.c 0 rfl; have b0 := X1.c 0 rfl; have b1 := X1.c 1 rfl; have b2 := X1.c 2 rfl; have b3 := X1.c 3 rfl; have b4 := X1.c 4 rfl; have b5 := X1.c 5 rfl; have b6 := X1.c 6 rfl; have b7 := X1.c 7 rfl; have b8 := X1.c 8 rfl; have b9 := X1.c 9 rfl; have b10 := X1.c 10 rfl; have b11 := X1.c 11 rfl
     have SI := fun w h => side_any ao n cap p x y z (rgF_ok H1.out).h3 (rgF_ok H1.out).h12 (rgF_ok H1.out).ok (rgF_ok H1.out).one H2.out w h
     go_wp2_with fail
     refine (SI _ (HP.out.step T0.below)).mono ?_
     rintro e w3 ⟨rfl, hB⟩
     have HB := (T0.step hB).below
     clear hB T0 X0 X1 a0 b0 b1 b2 b3 b4 b5 b6 b7 b8 b9 b10 b11 SI
     go_wp2
     go_ret
     exact ⟨by rw [hv2.out]; rfl, HB⟩
   · rw [Bool.eq_false_iff.2 h2]
     have hv2 : Hid (o = 2) := by show _ = _; rw [hv.out, if_neg (fun h => h2 h.2)]
     have HB := T0.below
     clear h2 hv T0
     go_wp2
     go_ret
     exact ⟨by rw [hv2.out]; rfl, HB⟩
 · rw [decide_eq_false h1]
   have hv2 : Hid (o = 2) := by show _ = _; rw [hv.out, if_neg (fun h => h1 h.1)]
   have HB := T0.below
   clear h1 hv T0 O2
   go_wp2
   go_ret
   exact ⟨by rw [hv2.out]; rfl, HB⟩
def RgV (n : Nat) (p : Ps) (v : Value) (W : World) : Prop := ∃ g, v = .agg #[.slice (some ⟨g, 0, none⟩) n n] ∧ SpIn W (some ⟨g, 0, none⟩) n p
theorem RgV.step {n : Nat} {p : Ps} {v : Value} {W W2 : World} (h : RgV n p v W) (hB : Below W.heap.size W W2) : RgV n p v W2 := by
 obtain ⟨g, e, hs⟩ := h
 exact ⟨g, e, hs.step hB⟩
def VregLawSide5 (ao : Option Addr) (n cap : Nat) (p : Ps) (x y z : Int) (_B : Nat) : Nat → Value → World → Prop
 | 0, v, _ => v = .agg #[.slice ao n cap]
 | 1, v, W => RgV n p v W
 | 2, v, _ => v = PV x y z
 | 3, v, _ => v = PV x y z
 | 4, v, _ => v = .int .i64 (rsV n p x y z)
 | 5, v, _ => v = .int .i64 (rsV n p x y z)
 | _, _, _ => True
theorem VregLawSide5.mono {ao : Option Addr} {n cap : Nat} {p : Ps} {x y z : Int} {B j : Nat} {v : Value} {W W2 : World} (hB : Below W.heap.size W W2) (h : VregLawSide5 ao n cap p x y z B j v W) : VregLawSide5 ao n cap p x y z B j v W2 := by
 unfold VregLawSide5 at *
 split <;> simp only at h <;> first | exact h | exact h.step hB | trivial
set_option maxRecDepth 100000 in
set_option maxHeartbeats 4000000 in
theorem regLawSide5 {Q : Exit → Act → World → Prop} {ao : Option Addr} {n cap : Nat} {p : Ps} {x y z : Int} {B1 B2 : Nat} {w0 : World} {a0 : Act} {idq : Nat} {t0 t1 t2 t3 t4 t5 : TypeId} {q0 q1 q2 q3 q4 q5 : String}
   (hn : n ≤ 1048576) (hS : SpIn w0 ao n p) (tx : told x = true) (ty : told y = true) (tz : told z = true) (h2 : a0.tmps[2]? = some (.pointer (some ⟨B1, 0, none⟩))) (h3 : a0.tmps[3]? = some (.pointer (some ⟨B2, 0, none⟩))) (k0 : w0.cell? ⟨B1, 0, none⟩ = some (.slice ao n cap)) (l0 : (⟨B1, 0, none⟩ : Addr).block < w0.heap.size) (k1 : w0.cell? ⟨B2, 0, none⟩ = some (.int .u64 (ww3 x))) (l1 : (⟨B2, 0, none⟩ : Addr).block < w0.heap.size) (k2 : w0.cell? ⟨B2, 1, none⟩ = some (.int .u64 (ww2 x))) (l2 : (⟨B2, 1, none⟩ : Addr).block < w0.heap.size) (k3 : w0.cell? ⟨B2, 2, none⟩ = some (.int .u64 (ww1 x))) (l3 : (⟨B2, 2, none⟩ : Addr).block < w0.heap.size) (k4 : w0.cell? ⟨B2, 3, none⟩ = some (.int .u64 (ww0 x))) (l4 : (⟨B2, 3, none⟩ : Addr).block < w0.heap.size) (k5 : w0.cell? ⟨B2, 4, none⟩ = some (.int .u64 (ww3 y))) (l5 : (⟨B2, 4, none⟩ : Addr).block < w0.heap.size) (k6 : w0.cell? ⟨B2, 5, none⟩ = some (.int .u64 (ww2 y))) (l6 : (⟨B2, 5, none⟩ : Addr).block < w0.heap.size) (k7 : w0.cell? ⟨B2, 6, none⟩ = some (.int .u64 (ww1 y))) (l7 : (⟨B2, 6, none⟩ : Addr).block < w0.heap.size) (k8 : w0.cell? ⟨B2, 7, none⟩ = some (.int .u64 (ww0 y))) (l8 : (⟨B2, 7, none⟩ : Addr).block < w0.heap.size) (k9 : w0.cell? ⟨B2, 8, none⟩ = some (.int .u64 (ww3 z))) (l9 : (⟨B2, 8, none⟩ : Addr).block < w0.heap.size) (k10 : w0.cell? ⟨B2, 9, none⟩ = some (.int .u64 (ww2 z))) (l10 : (⟨B2, 9, none⟩ : Addr).block < w0.heap.size) (k11 : w0.cell? ⟨B2, 10, none⟩ = some (.int .u64 (ww1 z))) (l11 : (⟨B2, 10, none⟩ : Addr).block < w0.heap.size) (k12 : w0.cell? ⟨B2, 11, none⟩ = some (.int .u64 (ww0 z))) (l12 : (⟨B2, 11, none⟩ : Addr).block < w0.heap.size) (hz : a0.tmps.size = 33)
   (hQ : ∀ aq W, aq.tmps.size = a0.tmps.size → aq.defers = a0.defers → (∀ e, e ∉ ([14, 15, 16, 17, 18, 6] : List Nat) → aq.tmps[e]? = a0.tmps[e]?) → VregLawSide5 ao n cap p x y z w0.heap.size 5 (aq.tmps.getD 6 undef) W → Below w0.heap.size w0 W → Q .normal aq W) :
   (Code.region idq #[{ dst := some 14, op := Op.load 24 (Operand.tmp 2), type := t0, pos := q0, after := #[], guard := none },
   { dst := some 15, op := Op.call { callee := Callee.value (Operand.func 10), args := #[Operand.tmp 14], argTypes := #[24] }, type := t1, pos := q1, after := #[{ on := 0, ground := Ground.data }], guard := none },
   { dst := some 16, op := Op.load 29 (Operand.tmp 3), type := t2, pos := q2, after := #[], guard := none },
   { dst := some 17, op := Op.call { callee := Callee.value (Operand.func 11), args := #[Operand.tmp 16], argTypes := #[29] }, type := t3, pos := q3, after := #[{ on := 2, ground := Ground.data }, { on := 1, ground := Ground.chain }], guard := none },
   { dst := some 18, op := Op.call { callee := Callee.value (Operand.func 9), args := #[Operand.tmp 15, Operand.tmp 17], argTypes := #[34, 38] }, type := t4, pos := q4, after := #[{ on := 1, ground := Ground.data }, { on := 3, ground := Ground.data }, { on := 3, ground := Ground.chain }], guard := none },
   { dst := some 6, op := Op.assign (Operand.tmp 18), type := t5, pos := q5, after := #[{ on := 4, ground := Ground.data }, { on := 4, ground := Ground.chain }, { on := 0, ground := Ground.phase }, { on := 1, ground := Ground.phase }, { on := 2, ground := Ground.phase }, { on := 3, ground := Ground.phase }, { on := 4, ground := Ground.phase }], guard := none }] true).wp Tryz.prog Q a0 w0 := by
 have hS : distS [some 14, some 15, some 16, some 17, some 18, some 6] = true := rfl
 refine wp_region_q (by kernel_rfl) w0.heap.size [some 14, some 15, some 16, some 17, some 18, some 6] (VregLawSide5 ao n cap p x y z w0.heap.size) rfl ?_ ?_
 · intro Q lq aq W iq oq hJ hl ho hall
   have hJ2 := hJ
   obtain ⟨z1, z2, z3, z4, z5, z6, z7⟩ := hJ
   have g2 : aq.tmps.getD 2 undef = .pointer (some ⟨B1, 0, none⟩) := by rw [Array.getD_eq_getD_getElem?, z4 2 (by decide), h2]; rfl
   have g3 : aq.tmps.getD 3 undef = .pointer (some ⟨B2, 0, none⟩) := by rw [Array.getD_eq_getD_getElem?, z4 3 (by decide), h3]; rfl
   have c0 : W.cell? ⟨B1, 0, none⟩ = some (.slice ao n cap) := (z5.cell l0).trans k0
   have c1 : W.cell? ⟨B2, 0, none⟩ = some (.int .u64 (ww3 x)) := (z5.cell l1).trans k1
   have c2 : W.cell? ⟨B2, 1, none⟩ = some (.int .u64 (ww2 x)) := (z5.cell l2).trans k2
   have c3 : W.cell? ⟨B2, 2, none⟩ = some (.int .u64 (ww1 x)) := (z5.cell l3).trans k3
   have c4 : W.cell? ⟨B2, 3, none⟩ = some (.int .u64 (ww0 x)) := (z5.cell l4).trans k4
   have c5 : W.cell? ⟨B2, 4, none⟩ = some (.int .u64 (ww3 y)) := (z5.cell l5).trans k5
   have c6 : W.cell? ⟨B2, 5, none⟩ = some (.int .u64 (ww2 y)) := (z5.cell l6).trans k6
   have c7 : W.cell? ⟨B2, 6, none⟩ = some (.int .u64 (ww1 y)) := (z5.cell l7).trans k7
   have c8 : W.cell? ⟨B2, 7, none⟩ = some (.int .u64 (ww0 y)) := (z5.cell l8).trans k8
   have c9 : W.cell? ⟨B2, 8, none⟩ = some (.int .u64 (ww3 z)) := (z5.cell l9).trans k9
   have c10 : W.cell? ⟨B2, 9, none⟩ = some (.int .u64 (ww2 z)) := (z5.cell l10).trans k10
   have c11 : W.cell? ⟨B2, 10, none⟩ = some (.int .u64 (ww1 z)) := (z5.cell l11).trans k11
   have c12 : W.cell? ⟨B2, 11, none⟩ = some (.int .u64 (ww0 z)) := (z5.cell l12).trans k12
   match iq, ho with
   | 0, ho =>
     cases ho
     refine wpOp_of rfl rfl ?_
     have hK := fun (v : Value) (W2 : World) hW hT hv => hJ2.put hS 0 14 rfl (by omega) (W' := W2) hW hT v hv
     clear ho hall hl hQ
     generalize InvQ w0.heap.size [some 14, some 15, some 16, some 17, some 18, some 6] (VregLawSide5 ao n cap p x y z w0.heap.size) w0 a0 (lq.setIfInBounds 0 true) = K at hK ⊢
     clear hJ2 hS z1 z2 z3 z4 z6 z7
     go_simp
     exact hK _ _ z5 (fun _ _ h => h) rfl
   | 1, ho =>
     cases ho
     refine wpOp_of rfl rfl ?_
     have f0 : (aq.tmps.getD 14 undef) = .agg #[.slice ao n cap] := z6 0 14 (hall { on := 0, ground := Ground.data } (by simp) rfl) rfl
     have hK := fun (v : Value) (W2 : World) hW hT hv => hJ2.put hS 1 15 rfl (by omega) (W' := W2) hW hT v hv
     clear ho hall hl hQ
     generalize InvQ w0.heap.size [some 14, some 15, some 16, some 17, some 18, some 6] (VregLawSide5 ao n cap p x y z w0.heap.size) w0 a0 (lq.setIfInBounds 1 true) = K at hK ⊢
     clear hJ2 hS z1 z2 z3 z4 z6 z7
     go_simp
     refine (toRing_any ao n cap p hn W (hS.step z5)).mono ?_
     rintro e v1 ⟨g, rfl, _, R1, hBv⟩
     exact hK _ _ (z5.trans (hBv.mono z5.size)) (fun j v h => h.mono hBv) ⟨g, rfl, spIn_row R1⟩
   | 2, ho =>
     cases ho
     refine wpOp_of rfl rfl ?_
     have hK := fun (v : Value) (W2 : World) hW hT hv => hJ2.put hS 2 16 rfl (by omega) (W' := W2) hW hT v hv
     clear ho hall hl hQ
     generalize InvQ w0.heap.size [some 14, some 15, some 16, some 17, some 18, some 6] (VregLawSide5 ao n cap p x y z w0.heap.size) w0 a0 (lq.setIfInBounds 2 true) = K at hK ⊢
     clear hJ2 hS z1 z2 z3 z4 z6 z7
     go_simp
     exact hK _ _ z5 (fun _ _ h => h) rfl
   | 3, ho =>
     cases ho
     refine wpOp_of rfl rfl ?_
     have f2 : (aq.tmps.getD 16 undef) = PV x y z := z6 2 16 (hall { on := 2, ground := Ground.data } (by simp) rfl) rfl
     have hK := fun (v : Value) (W2 : World) hW hT hv => hJ2.put hS 3 17 rfl (by omega) (W' := W2) hW hT v hv
     clear ho hall hl hQ
     generalize InvQ w0.heap.size [some 14, some 15, some 16, some 17, some 18, some 6] (VregLawSide5 ao n cap p x y z w0.heap.size) w0 a0 (lq.setIfInBounds 3 true) = K at hK ⊢
     clear hJ2 hS z1 z2 z3 z4 z6 z7
     go_simp
     refine (toPoint_det x y z W).mono ?_
     rintro e v1 ⟨rfl, hBv⟩
     exact hK _ _ (z5.trans (hBv.mono z5.size)) (fun j v h => h.mono hBv) rfl
   | 4, ho =>
     cases ho
     refine wpOp_of rfl rfl ?_
     have f1 : RgV n p (aq.tmps.getD 15 undef) W := z6 1 15 (hall { on := 1, ground := Ground.data } (by simp) rfl) rfl
     obtain ⟨g1, ge, G1⟩ := f1
     have f3 : (aq.tmps.getD 17 undef) = PV x y z := z6 3 17 (hall { on := 3, ground := Ground.data } (by simp) rfl) rfl
     have hK := fun (v : Value) (W2 : World) hW hT hv => hJ2.put hS 4 18 rfl (by omega) (W' := W2) hW hT v hv
     clear ho hall hl hQ
     generalize InvQ w0.heap.size [some 14, some 15, some 16, some 17, some 18, some 6] (VregLawSide5 ao n cap p x y z w0.heap.size) w0 a0 (lq.setIfInBounds 4 true) = K at hK ⊢
     clear hJ2 hS z1 z2 z3 z4 z6 z7
     go_simp
     refine (specRingSide_any (some ⟨g1, 0, none⟩) n n p x y z hn tx ty tz W G1).mono ?_
     rintro e v1 ⟨rfl, hBv⟩
     exact hK _ _ (z5.trans (hBv.mono z5.size)) (fun j v h => h.mono hBv) rfl
   | 5, ho =>
     cases ho
     refine wpOp_of rfl rfl ?_
     have f4 : (aq.tmps.getD 18 undef) = .int .i64 (rsV n p x y z) := z6 4 18 (hall { on := 4, ground := Ground.data } (by simp) rfl) rfl
     have hK := fun (v : Value) (W2 : World) hW hT hv => hJ2.put hS 5 6 rfl (by omega) (W' := W2) hW hT v hv
     clear ho hall hl hQ
     generalize InvQ w0.heap.size [some 14, some 15, some 16, some 17, some 18, some 6] (VregLawSide5 ao n cap p x y z w0.heap.size) w0 a0 (lq.setIfInBounds 5 true) = K at hK ⊢
     clear hJ2 hS z1 z2 z3 z4 z6 z7
     go_simp
     exact hK _ _ z5 (fun _ _ h => h) rfl
   | iq + 6, ho => simp at ho
 · intro lq aq W hJ hr
   obtain ⟨z1, z2, z3, z4, z5, z6, z7⟩ := hJ
   have hl := listed_of hr [0, 1, 2, 3, 4, 5] [] (by simp) (by kernel_rfl) (by rw [z1]; decide)
   exact hQ aq W z2 z3 (fun e he => z4 e (by simpa using he)) (z6 5 6 (hl 5 (by simp)) rfl) z5
def VregLawSide7 (g1 n : Nat) (p : Ps) (x y z : Int) (_B : Nat) : Nat → Value → World → Prop
 | 0, v, _ => v = .agg #[.slice (some ⟨g1, 0, none⟩) n n]
 | 1, v, _ => v = PV x y z
 | 2, v, _ => v = PV x y z
 | 3, v, _ => v = .int .i64 (rsV n p x y z)
 | 4, v, _ => v = .int .i64 (rsV n p x y z)
 | _, _, _ => True
theorem VregLawSide7.mono {g1 n : Nat} {p : Ps} {x y z : Int} {B j : Nat} {v : Value} {W W2 : World} (_hB : Below W.heap.size W W2) (h : VregLawSide7 g1 n p x y z B j v W) : VregLawSide7 g1 n p x y z B j v W2 := by
 unfold VregLawSide7 at *
 split <;> simp only at h <;> first | exact h | trivial
set_option maxRecDepth 100000 in
set_option maxHeartbeats 4000000 in
theorem regLawSide7 {Q : Exit → Act → World → Prop} {g1 n : Nat} {p : Ps} {x y z : Int} {B1 B2 : Nat} {w0 : World} {a0 : Act} {idq : Nat} {t0 t1 t2 t3 t4 : TypeId} {q0 q1 q2 q3 q4 : String}
   (hn : n ≤ 1048576) (hS : SpIn w0 (some ⟨g1, 0, none⟩) n p) (tx : told x = true) (ty : told y = true) (tz : told z = true) (h7 : a0.tmps[7]? = some (.pointer (some ⟨B1, 0, none⟩))) (h3 : a0.tmps[3]? = some (.pointer (some ⟨B2, 0, none⟩))) (k0 : w0.cell? ⟨B1, 0, none⟩ = some (.slice (some ⟨g1, 0, none⟩) n n)) (l0 : (⟨B1, 0, none⟩ : Addr).block < w0.heap.size) (k1 : w0.cell? ⟨B2, 0, none⟩ = some (.int .u64 (ww3 x))) (l1 : (⟨B2, 0, none⟩ : Addr).block < w0.heap.size) (k2 : w0.cell? ⟨B2, 1, none⟩ = some (.int .u64 (ww2 x))) (l2 : (⟨B2, 1, none⟩ : Addr).block < w0.heap.size) (k3 : w0.cell? ⟨B2, 2, none⟩ = some (.int .u64 (ww1 x))) (l3 : (⟨B2, 2, none⟩ : Addr).block < w0.heap.size) (k4 : w0.cell? ⟨B2, 3, none⟩ = some (.int .u64 (ww0 x))) (l4 : (⟨B2, 3, none⟩ : Addr).block < w0.heap.size) (k5 : w0.cell? ⟨B2, 4, none⟩ = some (.int .u64 (ww3 y))) (l5 : (⟨B2, 4, none⟩ : Addr).block < w0.heap.size) (k6 : w0.cell? ⟨B2, 5, none⟩ = some (.int .u64 (ww2 y))) (l6 : (⟨B2, 5, none⟩ : Addr).block < w0.heap.size) (k7 : w0.cell? ⟨B2, 6, none⟩ = some (.int .u64 (ww1 y))) (l7 : (⟨B2, 6, none⟩ : Addr).block < w0.heap.size) (k8 : w0.cell? ⟨B2, 7, none⟩ = some (.int .u64 (ww0 y))) (l8 : (⟨B2, 7, none⟩ : Addr).block < w0.heap.size) (k9 : w0.cell? ⟨B2, 8, none⟩ = some (.int .u64 (ww3 z))) (l9 : (⟨B2, 8, none⟩ : Addr).block < w0.heap.size) (k10 : w0.cell? ⟨B2, 9, none⟩ = some (.int .u64 (ww2 z))) (l10 : (⟨B2, 9, none⟩ : Addr).block < w0.heap.size) (k11 : w0.cell? ⟨B2, 10, none⟩ = some (.int .u64 (ww1 z))) (l11 : (⟨B2, 10, none⟩ : Addr).block < w0.heap.size) (k12 : w0.cell? ⟨B2, 11, none⟩ = some (.int .u64 (ww0 z))) (l12 : (⟨B2, 11, none⟩ : Addr).block < w0.heap.size) (hz : a0.tmps.size = 33)
   (hQ : ∀ aq W, aq.tmps.size = a0.tmps.size → aq.defers = a0.defers → (∀ e, e ∉ ([21, 22, 23, 24, 8] : List Nat) → aq.tmps[e]? = a0.tmps[e]?) → VregLawSide7 g1 n p x y z w0.heap.size 4 (aq.tmps.getD 8 undef) W → Below w0.heap.size w0 W → Q .normal aq W) :
   (Code.region idq #[{ dst := some 21, op := Op.load 34 (Operand.tmp 7), type := t0, pos := q0, after := #[], guard := none },
   { dst := some 22, op := Op.load 29 (Operand.tmp 3), type := t1, pos := q1, after := #[], guard := none },
   { dst := some 23, op := Op.call { callee := Callee.value (Operand.func 11), args := #[Operand.tmp 22], argTypes := #[29] }, type := t2, pos := q2, after := #[{ on := 1, ground := Ground.data }], guard := none },
   { dst := some 24, op := Op.call { callee := Callee.value (Operand.func 12), args := #[Operand.tmp 21, Operand.tmp 23], argTypes := #[34, 38] }, type := t3, pos := q3, after := #[{ on := 0, ground := Ground.data }, { on := 2, ground := Ground.data }, { on := 2, ground := Ground.chain }], guard := none },
   { dst := some 8, op := Op.assign (Operand.tmp 24), type := t4, pos := q4, after := #[{ on := 3, ground := Ground.data }, { on := 3, ground := Ground.chain }, { on := 0, ground := Ground.phase }, { on := 1, ground := Ground.phase }, { on := 2, ground := Ground.phase }, { on := 3, ground := Ground.phase }], guard := none }] true).wp Tryz.prog Q a0 w0 := by
 have hS : distS [some 21, some 22, some 23, some 24, some 8] = true := rfl
 refine wp_region_q (by kernel_rfl) w0.heap.size [some 21, some 22, some 23, some 24, some 8] (VregLawSide7 g1 n p x y z w0.heap.size) rfl ?_ ?_
 · intro Q lq aq W iq oq hJ hl ho hall
   have hJ2 := hJ
   obtain ⟨z1, z2, z3, z4, z5, z6, z7⟩ := hJ
   have g7 : aq.tmps.getD 7 undef = .pointer (some ⟨B1, 0, none⟩) := by rw [Array.getD_eq_getD_getElem?, z4 7 (by decide), h7]; rfl
   have g3 : aq.tmps.getD 3 undef = .pointer (some ⟨B2, 0, none⟩) := by rw [Array.getD_eq_getD_getElem?, z4 3 (by decide), h3]; rfl
   have c0 : W.cell? ⟨B1, 0, none⟩ = some (.slice (some ⟨g1, 0, none⟩) n n) := (z5.cell l0).trans k0
   have c1 : W.cell? ⟨B2, 0, none⟩ = some (.int .u64 (ww3 x)) := (z5.cell l1).trans k1
   have c2 : W.cell? ⟨B2, 1, none⟩ = some (.int .u64 (ww2 x)) := (z5.cell l2).trans k2
   have c3 : W.cell? ⟨B2, 2, none⟩ = some (.int .u64 (ww1 x)) := (z5.cell l3).trans k3
   have c4 : W.cell? ⟨B2, 3, none⟩ = some (.int .u64 (ww0 x)) := (z5.cell l4).trans k4
   have c5 : W.cell? ⟨B2, 4, none⟩ = some (.int .u64 (ww3 y)) := (z5.cell l5).trans k5
   have c6 : W.cell? ⟨B2, 5, none⟩ = some (.int .u64 (ww2 y)) := (z5.cell l6).trans k6
   have c7 : W.cell? ⟨B2, 6, none⟩ = some (.int .u64 (ww1 y)) := (z5.cell l7).trans k7
   have c8 : W.cell? ⟨B2, 7, none⟩ = some (.int .u64 (ww0 y)) := (z5.cell l8).trans k8
   have c9 : W.cell? ⟨B2, 8, none⟩ = some (.int .u64 (ww3 z)) := (z5.cell l9).trans k9
   have c10 : W.cell? ⟨B2, 9, none⟩ = some (.int .u64 (ww2 z)) := (z5.cell l10).trans k10
   have c11 : W.cell? ⟨B2, 10, none⟩ = some (.int .u64 (ww1 z)) := (z5.cell l11).trans k11
   have c12 : W.cell? ⟨B2, 11, none⟩ = some (.int .u64 (ww0 z)) := (z5.cell l12).trans k12
   match iq, ho with
   | 0, ho =>
     cases ho
     refine wpOp_of rfl rfl ?_
     have hK := fun (v : Value) (W2 : World) hW hT hv => hJ2.put hS 0 21 rfl (by omega) (W' := W2) hW hT v hv
     clear ho hall hl hQ
     generalize InvQ w0.heap.size [some 21, some 22, some 23, some 24, some 8] (VregLawSide7 g1 n p x y z w0.heap.size) w0 a0 (lq.setIfInBounds 0 true) = K at hK ⊢
     clear hJ2 hS z1 z2 z3 z4 z6 z7
     go_simp
     exact hK _ _ z5 (fun _ _ h => h) rfl
   | 1, ho =>
     cases ho
     refine wpOp_of rfl rfl ?_
     have hK := fun (v : Value) (W2 : World) hW hT hv => hJ2.put hS 1 22 rfl (by omega) (W' := W2) hW hT v hv
     clear ho hall hl hQ
     generalize InvQ w0.heap.size [some 21, some 22, some 23, some 24, some 8] (VregLawSide7 g1 n p x y z w0.heap.size) w0 a0 (lq.setIfInBounds 1 true) = K at hK ⊢
     clear hJ2 hS z1 z2 z3 z4 z6 z7
     go_simp
     exact hK _ _ z5 (fun _ _ h => h) rfl
   | 2, ho =>
     cases ho
     refine wpOp_of rfl rfl ?_
     have f1 : (aq.tmps.getD 22 undef) = PV x y z := z6 1 22 (hall { on := 1, ground := Ground.data } (by simp) rfl) rfl
     have hK := fun (v : Value) (W2 : World) hW hT hv => hJ2.put hS 2 23 rfl (by omega) (W' := W2) hW hT v hv
     clear ho hall hl hQ
     generalize InvQ w0.heap.size [some 21, some 22, some 23, some 24, some 8] (VregLawSide7 g1 n p x y z w0.heap.size) w0 a0 (lq.setIfInBounds 2 true) = K at hK ⊢
     clear hJ2 hS z1 z2 z3 z4 z6 z7
     go_simp
     refine (toPoint_det x y z W).mono ?_
     rintro e v1 ⟨rfl, hBv⟩
     exact hK _ _ (z5.trans (hBv.mono z5.size)) (fun j v h => h.mono hBv) rfl
   | 3, ho =>
     cases ho
     refine wpOp_of rfl rfl ?_
     have f0 : (aq.tmps.getD 21 undef) = .agg #[.slice (some ⟨g1, 0, none⟩) n n] := z6 0 21 (hall { on := 0, ground := Ground.data } (by simp) rfl) rfl
     have f2 : (aq.tmps.getD 23 undef) = PV x y z := z6 2 23 (hall { on := 2, ground := Ground.data } (by simp) rfl) rfl
     have hK := fun (v : Value) (W2 : World) hW hT hv => hJ2.put hS 3 24 rfl (by omega) (W' := W2) hW hT v hv
     clear ho hall hl hQ
     generalize InvQ w0.heap.size [some 21, some 22, some 23, some 24, some 8] (VregLawSide7 g1 n p x y z w0.heap.size) w0 a0 (lq.setIfInBounds 3 true) = K at hK ⊢
     clear hJ2 hS z1 z2 z3 z4 z6 z7
     go_simp
     refine (implRingSide_any (some ⟨g1, 0, none⟩) n n p x y z hn (Nat.le_refl _) (by omega) tx ty tz W (hS.step z5)).mono ?_
     rintro e v1 ⟨rfl, hBv⟩
     exact hK _ _ (z5.trans (hBv.mono z5.size)) (fun j v h => h.mono hBv) rfl
   | 4, ho =>
     cases ho
     refine wpOp_of rfl rfl ?_
     have f3 : (aq.tmps.getD 24 undef) = .int .i64 (rsV n p x y z) := z6 3 24 (hall { on := 3, ground := Ground.data } (by simp) rfl) rfl
     have hK := fun (v : Value) (W2 : World) hW hT hv => hJ2.put hS 4 8 rfl (by omega) (W' := W2) hW hT v hv
     clear ho hall hl hQ
     generalize InvQ w0.heap.size [some 21, some 22, some 23, some 24, some 8] (VregLawSide7 g1 n p x y z w0.heap.size) w0 a0 (lq.setIfInBounds 4 true) = K at hK ⊢
     clear hJ2 hS z1 z2 z3 z4 z6 z7
     go_simp
     exact hK _ _ z5 (fun _ _ h => h) rfl
   | iq + 5, ho => simp at ho
 · intro lq aq W hJ hr
   obtain ⟨z1, z2, z3, z4, z5, z6, z7⟩ := hJ
   have hl := listed_of hr [0, 1, 2, 3, 4] [] (by simp) (by kernel_rfl) (by rw [z1]; decide)
   exact hQ aq W z2 z3 (fun e he => z4 e (by simpa using he)) (z6 4 8 (hl 4 (by simp)) rfl) z5
def VregLawSide10 (ao : Option Addr) (g1 n cap : Nat) (p : Ps) (_B : Nat) : Nat → Value → World → Prop
 | 0, v, _ => v = .agg #[.slice (some ⟨g1, 0, none⟩) n n]
 | 1, v, _ => v = .agg #[.slice ao n cap]
 | 2, v, W => RgV n p v W
 | 3, v, _ => v = .bool true
 | 4, v, _ => v = .bool false
 | _, _, _ => True
theorem VregLawSide10.mono {ao : Option Addr} {g1 n cap : Nat} {p : Ps} {B j : Nat} {v : Value} {W W2 : World} (hB : Below W.heap.size W W2) (h : VregLawSide10 ao g1 n cap p B j v W) : VregLawSide10 ao g1 n cap p B j v W2 := by
 unfold VregLawSide10 at *
 split <;> simp only at h <;> first | exact h | exact h.step hB | trivial
set_option maxRecDepth 100000 in
set_option maxHeartbeats 4000000 in
theorem regLawSide10 {Q : Exit → Act → World → Prop} {ao : Option Addr} {g1 n cap : Nat} {p : Ps} {B1 B2 : Nat} {w0 : World} {a0 : Act} {idq : Nat} {t0 t1 t2 t3 t4 : TypeId} {q0 q1 q2 q3 q4 : String}
   (hn : n ≤ 1048576) (hS : SpIn w0 ao n p) (hG : SpIn w0 (some ⟨g1, 0, none⟩) n p) (h7 : a0.tmps[7]? = some (.pointer (some ⟨B1, 0, none⟩))) (h2 : a0.tmps[2]? = some (.pointer (some ⟨B2, 0, none⟩))) (k0 : w0.cell? ⟨B1, 0, none⟩ = some (.slice (some ⟨g1, 0, none⟩) n n)) (l0 : (⟨B1, 0, none⟩ : Addr).block < w0.heap.size) (k1 : w0.cell? ⟨B2, 0, none⟩ = some (.slice ao n cap)) (l1 : (⟨B2, 0, none⟩ : Addr).block < w0.heap.size) (hz : a0.tmps.size = 33)
   (hQ : ∀ aq W, aq.tmps.size = a0.tmps.size → aq.defers = a0.defers → (∀ e, e ∉ ([28, 29, 30, 31, 32] : List Nat) → aq.tmps[e]? = a0.tmps[e]?) → VregLawSide10 ao g1 n cap p w0.heap.size 4 (aq.tmps.getD 32 undef) W → Below w0.heap.size w0 W → Q .normal aq W) :
   (Code.region idq #[{ dst := some 28, op := Op.load 34 (Operand.tmp 7), type := t0, pos := q0, after := #[], guard := none },
   { dst := some 29, op := Op.load 24 (Operand.tmp 2), type := t1, pos := q1, after := #[], guard := none },
   { dst := some 30, op := Op.call { callee := Callee.value (Operand.func 10), args := #[Operand.tmp 29], argTypes := #[24] }, type := t2, pos := q2, after := #[{ on := 1, ground := Ground.data }], guard := none },
   { dst := some 31, op := Op.call { callee := Callee.value (Operand.func 13), args := #[Operand.tmp 28, Operand.tmp 30], argTypes := #[34, 34] }, type := t3, pos := q3, after := #[{ on := 0, ground := Ground.data }, { on := 2, ground := Ground.data }, { on := 2, ground := Ground.chain }], guard := none },
   { dst := some 32, op := Op.unOp UnOp.not 4 (Operand.tmp 31), type := t4, pos := q4, after := #[{ on := 3, ground := Ground.data }], guard := none }] true).wp Tryz.prog Q a0 w0 := by
 have hS : distS [some 28, some 29, some 30, some 31, some 32] = true := rfl
 refine wp_region_q (by kernel_rfl) w0.heap.size [some 28, some 29, some 30, some 31, some 32] (VregLawSide10 ao g1 n cap p w0.heap.size) rfl ?_ ?_
 · intro Q lq aq W iq oq hJ hl ho hall
   have hJ2 := hJ
   obtain ⟨z1, z2, z3, z4, z5, z6, z7⟩ := hJ
   have g7 : aq.tmps.getD 7 undef = .pointer (some ⟨B1, 0, none⟩) := by rw [Array.getD_eq_getD_getElem?, z4 7 (by decide), h7]; rfl
   have g2 : aq.tmps.getD 2 undef = .pointer (some ⟨B2, 0, none⟩) := by rw [Array.getD_eq_getD_getElem?, z4 2 (by decide), h2]; rfl
   have c0 : W.cell? ⟨B1, 0, none⟩ = some (.slice (some ⟨g1, 0, none⟩) n n) := (z5.cell l0).trans k0
   have c1 : W.cell? ⟨B2, 0, none⟩ = some (.slice ao n cap) := (z5.cell l1).trans k1
   match iq, ho with
   | 0, ho =>
     cases ho
     refine wpOp_of rfl rfl ?_
     have hK := fun (v : Value) (W2 : World) hW hT hv => hJ2.put hS 0 28 rfl (by omega) (W' := W2) hW hT v hv
     clear ho hall hl hQ
     generalize InvQ w0.heap.size [some 28, some 29, some 30, some 31, some 32] (VregLawSide10 ao g1 n cap p w0.heap.size) w0 a0 (lq.setIfInBounds 0 true) = K at hK ⊢
     clear hJ2 hS z1 z2 z3 z4 z6 z7
     go_simp
     exact hK _ _ z5 (fun _ _ h => h) rfl
   | 1, ho =>
     cases ho
     refine wpOp_of rfl rfl ?_
     have hK := fun (v : Value) (W2 : World) hW hT hv => hJ2.put hS 1 29 rfl (by omega) (W' := W2) hW hT v hv
     clear ho hall hl hQ
     generalize InvQ w0.heap.size [some 28, some 29, some 30, some 31, some 32] (VregLawSide10 ao g1 n cap p w0.heap.size) w0 a0 (lq.setIfInBounds 1 true) = K at hK ⊢
     clear hJ2 hS z1 z2 z3 z4 z6 z7
     go_simp
     exact hK _ _ z5 (fun _ _ h => h) rfl
   | 2, ho =>
     cases ho
     refine wpOp_of rfl rfl ?_
     have f1 : (aq.tmps.getD 29 undef) = .agg #[.slice ao n cap] := z6 1 29 (hall { on := 1, ground := Ground.data } (by simp) rfl) rfl
     have hK := fun (v : Value) (W2 : World) hW hT hv => hJ2.put hS 2 30 rfl (by omega) (W' := W2) hW hT v hv
     clear ho hall hl hQ
     generalize InvQ w0.heap.size [some 28, some 29, some 30, some 31, some 32] (VregLawSide10 ao g1 n cap p w0.heap.size) w0 a0 (lq.setIfInBounds 2 true) = K at hK ⊢
     clear hJ2 hS z1 z2 z3 z4 z6 z7
     go_simp
     refine (toRing_any ao n cap p hn W (hS.step z5)).mono ?_
     rintro e v1 ⟨g, rfl, _, R1, hBv⟩
     exact hK _ _ (z5.trans (hBv.mono z5.size)) (fun j v h => h.mono hBv) ⟨g, rfl, spIn_row R1⟩
   | 3, ho =>
     cases ho
     refine wpOp_of rfl rfl ?_
     have f0 : (aq.tmps.getD 28 undef) = .agg #[.slice (some ⟨g1, 0, none⟩) n n] := z6 0 28 (hall { on := 0, ground := Ground.data } (by simp) rfl) rfl
     have f2 : RgV n p (aq.tmps.getD 30 undef) W := z6 2 30 (hall { on := 2, ground := Ground.data } (by simp) rfl) rfl
     obtain ⟨g2, ge, G2⟩ := f2
     have hK := fun (v : Value) (W2 : World) hW hT hv => hJ2.put hS 3 31 rfl (by omega) (W' := W2) hW hT v hv
     clear ho hall hl hQ
     generalize InvQ w0.heap.size [some 28, some 29, some 30, some 31, some 32] (VregLawSide10 ao g1 n cap p w0.heap.size) w0 a0 (lq.setIfInBounds 3 true) = K at hK ⊢
     clear hJ2 hS z1 z2 z3 z4 z6 z7
     go_simp
     refine (eqRing_any (some ⟨g1, 0, none⟩) (some ⟨g2, 0, none⟩) n n n p hn W (hG.step z5) G2).mono ?_
     rintro e v1 ⟨rfl, hBv⟩
     exact hK _ _ (z5.trans (hBv.mono z5.size)) (fun j v h => h.mono hBv) rfl
   | 4, ho =>
     cases ho
     refine wpOp_of rfl rfl ?_
     have f3 : (aq.tmps.getD 31 undef) = .bool true := z6 3 31 (hall { on := 3, ground := Ground.data } (by simp) rfl) rfl
     have hK := fun (v : Value) (W2 : World) hW hT hv => hJ2.put hS 4 32 rfl (by omega) (W' := W2) hW hT v hv
     clear ho hall hl hQ
     generalize InvQ w0.heap.size [some 28, some 29, some 30, some 31, some 32] (VregLawSide10 ao g1 n cap p w0.heap.size) w0 a0 (lq.setIfInBounds 4 true) = K at hK ⊢
     clear hJ2 hS z1 z2 z3 z4 z6 z7
     go_simp
     exact hK _ _ z5 (fun _ _ h => h) rfl
   | iq + 5, ho => simp at ho
 · intro lq aq W hJ hr
   obtain ⟨z1, z2, z3, z4, z5, z6, z7⟩ := hJ
   have hl := listed_of hr [0, 1, 2, 3, 4] [] (by simp) (by kernel_rfl) (by rw [z1]; decide)
   exact hQ aq W z2 z3 (fun e he => z4 e (by simpa using he)) (z6 4 32 (hl 4 (by simp)) rfl) z5
set_option maxRecDepth 100000 in
set_option maxHeartbeats 8000000 in
theorem lawRingSide_any (ao : Option Addr) (n cap : Nat) (p : Ps) (x y z : Int) (hn : n ≤ 9223372036854775807) (tx : told x = true) (ty : told y = true) (tz : told z = true) (w : World) (hS : SpIn w ao n p) : Calls Tryz.prog 3 #[.agg #[.slice ao n cap], PV x y z] w (BoolP true w) := by
 have T0 := ring_point w (.slice ao n cap) x y z 24 29
 have HP : Hid (SpIn w ao n p) := hS
 have SZ := szRing_any ao n cap 1048576 (by omega) (by omega) hn
 clear hS
 have X0 : Blk _ w.heap.size _ := T0.b 0 rfl; have a0 := X0.c 0 rfl
 go_enter Tryz.func3, Tryz.ntmps3
 go_upto_region 2 with fail
 generalize ((w.alloc (.cells #[.slice ao n cap] 24)).alloc (.cells #[.int .u64 (ww3 x), .int .u64 (ww2 x), .int .u64 (ww1 x), .int .u64 (ww0 x), .int .u64 (ww3 y), .int .u64 (ww2 y), .int .u64 (ww1 y), .int .u64 (ww0 y), .int .u64 (ww3 z), .int .u64 (ww2 z), .int .u64 (ww1 z), .int .u64 (ww0 z)] 29)) = W at *
 by_cases hs : n ≤ 1048576
 · rw [if_pos (by omega)] at SZ
   have hsI : (n : Int) ≤ 1048576 := by omega
   have hz0 : (0 : Int) ≤ 1048576 - n := by omega
   go_wp2_with fail
   refine (SZ _).mono ?_
   rintro e w1 ⟨rfl, hB⟩
   replace T0 := T0.step hB
   clear hB SZ X0 a0
   have X0 : Blk _ w.heap.size _ := T0.b 0 rfl; have X1 : Blk _ (w.heap.size + 1) _ := T0.b 1 rfl
   go_upto_region 5 with fail
   go_cut [6] (fun zv wx => zv = .int .i64 (rsV n p x y z) ∧ Below w1.heap.size w1 wx)
   case first =>
     refine regLawSide5 (ao := ao) (n := n) (cap := cap) (p := p) (x := x) (y := y) (z := z) (B1 := w.heap.size) (B2 := w.heap.size + 1) hs (HP.out.step T0.below) tx ty tz rfl rfl (X0.c 0 rfl) X0.lt (X1.c 0 rfl) X1.lt (X1.c 1 rfl) X1.lt (X1.c 2 rfl) X1.lt (X1.c 3 rfl) X1.lt (X1.c 4 rfl) X1.lt (X1.c 5 rfl) X1.lt (X1.c 6 rfl) X1.lt (X1.c 7 rfl) X1.lt (X1.c 8 rfl) X1.lt (X1.c 9 rfl) X1.lt (X1.c 10 rfl) X1.lt (X1.c 11 rfl) X1.lt rfl ?_
     rintro ⟨tm, df⟩ Wz hz hdf hoff hx hBz
     simp only at hz hdf hoff hx
     change tm.getD 6 undef = .int .i64 (rsV n p x y z) at hx
     subst hdf
     have htm := tmps_fold [14, 15, 16, 17, 18, 6] tm _ hz hoff
     simp only [List.foldl, List.setIfInBounds_toArray, List.set_cons_zero, List.set_cons_succ, hx] at htm
     clear hz hoff
     generalize tm.getD 14 undef = u0, tm.getD 15 undef = u1, tm.getD 16 undef = u2, tm.getD 17 undef = u3, tm.getD 18 undef = u4 at htm
     clear hx
     subst htm
     go_wp2_with fail
     go_meet
     exact ⟨rfl, hBz⟩
   case rest =>
     obtain ⟨hq, hB⟩ := hcut
     subst hq
     generalize wc = w2 at *
     replace T0 := T0.step hB
     clear hB X0 X1
     have T1 := fun w h => toRing_any ao n cap p hs w h
     have X0 : Blk _ w.heap.size _ := T0.b 0 rfl; have a0 := X0.c 0 rfl
     go_wp2_with fail
     refine (T1 _ (HP.out.step T0.below)).mono ?_
     rintro e w3 ⟨g1, rfl, _, R1, hB⟩
     replace T0 := T0.step hB
     have R1' := spIn_row R1
     clear hB X0 a0 R1 T1
     have B5 := Blk.new w3 [.slice (some ⟨g1, 0, none⟩) n n] 34 rfl
     have hB6 := (Below.refl w3.heap.size w3).alloc (Nat.le_refl _) (.cells #[.slice (some ⟨g1, 0, none⟩) n n] 34)
     replace T0 := T0.step hB6
     replace R1' := R1'.step hB6
     clear hB6
     go_upto_region 7 with fail
     generalize w3.alloc (.cells #[.slice (some ⟨g1, 0, none⟩) n n] 34) = W6 at *
     generalize w3.heap.size = b5 at *
     have X1 : Blk _ (w.heap.size + 1) _ := T0.b 1 rfl
     go_cut [8] (fun zv wx => zv = .int .i64 (rsV n p x y z) ∧ Below W6.heap.size W6 wx)
     case first =>
       refine regLawSide7 (g1 := g1) (n := n) (p := p) (x := x) (y := y) (z := z) (B1 := b5) (B2 := w.heap.size + 1) hs R1' tx ty tz rfl rfl (B5.c 0 rfl) B5.lt (X1.c 0 rfl) X1.lt (X1.c 1 rfl) X1.lt (X1.c 2 rfl) X1.lt (X1.c 3 rfl) X1.lt (X1.c 4 rfl) X1.lt (X1.c 5 rfl) X1.lt (X1.c 6 rfl) X1.lt (X1.c 7 rfl) X1.lt (X1.c 8 rfl) X1.lt (X1.c 9 rfl) X1.lt (X1.c 10 rfl) X1.lt (X1.c 11 rfl) X1.lt rfl ?_
       rintro ⟨tm, df⟩ Wz hz hdf hoff hx hBz
       simp only at hz hdf hoff hx
       change tm.getD 8 undef = .int .i64 (rsV n p x y z) at hx
       subst hdf
       have htm := tmps_fold [21, 22, 23, 24, 8] tm _ hz hoff
       simp only [List.foldl, List.setIfInBounds_toArray, List.set_cons_zero, List.set_cons_succ, hx] at htm
       clear hz hoff
       generalize tm.getD 21 undef = u0, tm.getD 22 undef = u1, tm.getD 23 undef = u2, tm.getD 24 undef = u3 at htm
       clear hx
       subst htm
       go_wp2_with fail
       go_meet
       exact ⟨rfl, hBz⟩
     case rest =>
       obtain ⟨hq, hB⟩ := hcut
       subst hq
       generalize wc = w7 at *
       replace T0 := T0.step hB
       replace R1' := R1'.step hB
       replace B5 := B5.step hB
       clear hB X1
       generalize rsV n p x y z = o at *
       have hoo : (o != o) = false := by simp
       have X0 : Blk _ w.heap.size _ := T0.b 0 rfl
       go_upto_region 10 with fail
       go_cut [32] (fun zv wx => zv = .bool false ∧ Below w7.heap.size w7 wx)
       case first =>
         refine regLawSide10 (ao := ao) (g1 := g1) (n := n) (cap := cap) (p := p) (B1 := b5) (B2 := w.heap.size) hs (HP.out.step T0.below) R1' rfl rfl (B5.c 0 rfl) B5.lt (X0.c 0 rfl) X0.lt rfl ?_
         rintro ⟨tm, df⟩ Wz hz hdf hoff hx hBz
         simp only at hz hdf hoff hx
         change tm.getD 32 undef = .bool false at hx
         subst hdf
         have htm := tmps_fold [28, 29, 30, 31, 32] tm _ hz hoff
         simp only [List.foldl, List.setIfInBounds_toArray, List.set_cons_zero, List.set_cons_succ, hx] at htm
         clear hz hoff
         generalize tm.getD 28 undef = u0, tm.getD 29 undef = u1, tm.getD 30 undef = u2, tm.getD 31 undef = u3 at htm
         clear hx
         subst htm
         go_wp2_with fail
         go_meet
         exact ⟨rfl, hBz⟩
       case rest =>
         obtain ⟨hq, hB⟩ := hcut
         subst hq
         have HB := (T0.step hB).below
         clear hB T0 R1' B5 X0
         go_wp2
         go_ret
         exact ⟨rfl, HB⟩
 · rw [if_neg (by omega)] at SZ
   go_wp2_with fail
   refine (SZ _).mono ?_
   rintro e w1 ⟨rfl, hB⟩
   have HB := (T0.step hB).below
   clear hB SZ X0 a0 T0
   go_wp2
   go_ret
   exact ⟨rfl, HB⟩
open Go.ChangeShapes Go.WideShapes Go.ChangeAt Go.RowKit Go.Joins
abbrev Wf (x : Int) : Prop := (Lit.int .i64 x).wf = true
abbrev SpD {H : Type} (x y : Int) : DataW H := .agg [.lit (.int .i64 x), .lit (.int .i64 y)]
theorem trod_spot {H : Type} {enc : TypeId × Value → H} {w : World} {base : Nat} {spare : TypeId → Bool} {held : Bool} {n : Nat} {c0 c1 : Value} {y : DataW H × List MemPlace} (h : DataW.trod enc Tryz.prog w base spare held n 90 [c0, c1] = some y) :
   ∃ a b : Int, c0 = .int .i64 a ∧ c1 = .int .i64 b ∧ y = (SpD a b, []) ∧ Wf a ∧ Wf b := by
 obtain ⟨y0, y1, m, hx, _, h0, h1⟩ := trod_struct2 Tryz.underlying90 h
 obtain ⟨a, e0, rfl, wa⟩ := DataW.trod_int Tryz.underlying2 h0
 obtain ⟨b, e1, rfl, wb⟩ := DataW.trod_int Tryz.underlying2 h1
 have k : Tryz.prog.cellsOf 2 = 1 := by kernel_rfl
 simp [k] at e0 e1
 exact ⟨a, b, e0, e1, hx, wa, wb⟩
open Go.ChangeShapes Go.WideShapes Go.ChangeAt Go.RowKit Go.Joins
theorem Tryz.laidOut : laidOutB Tryz.prog = true := by kernel_rfl
theorem Tryz.cellsSpotL : Tryz.prog.cellsOf 90 = 2 := by kernel_rfl
theorem Tryz.cellsRing : Tryz.prog.cellsOf 24 = 1 := by kernel_rfl
theorem Tryz.cellsSpotS : Tryz.prog.cellsOf 22 = 1 := by kernel_rfl
theorem spots_of {H : Type} {enc : TypeId × Value → H} {W : World} {a : Addr} {len m n : Nat} {D : Nat → DataW H} {Pl : Nat → List MemPlace} (hl : len ≤ m)
   (hx : ∀ i, i < m → ∃ cs', W.cells? 0 (a.add (i * Tryz.prog.cellsOf 90)) (Tryz.prog.cellsOf 90) = some cs' ∧ DataW.trod enc Tryz.prog W 0 (fun _ => true) true n 90 cs' = some (D i, Pl i))
   (hlt : ∀ x ∈ MemPlace.row a (m * Tryz.prog.cellsOf 90), x.block < W.heap.size) : ∃ p : Ps, SpIn W (some a) len p := by
 rw [Tryz.cellsSpotL] at hx hlt
 have each : ∀ i, i < m → ∃ q : Int × Int, W.cell? (a.add (i * 2)) = some (.int .i64 q.1) ∧ W.cell? (a.add (i * 2 + 1)) = some (.int .i64 q.2) := by
   intro i hi
   obtain ⟨cs', h1, h2⟩ := hx i hi
   obtain ⟨_, hlen, hcell⟩ := World.cells?_some h1
   match cs', hlen with
   | [v0, v1], _ =>
     have e0 := hcell 0 (by omega); have e1 := hcell 1 (by omega)
     rw [Go.Deep.add_add] at e0 e1
     obtain ⟨x, y, rfl, rfl, -, -, -⟩ := trod_spot h2
     exact ⟨(x, y), by simpa using e0, by simpa using e1⟩
 obtain ⟨q, hq⟩ := Go.Deep.choose_lt each
 obtain ⟨ab, ao, spot⟩ := a
 refine ⟨q, fun i hi => ?_⟩
 have hspot : spot = none := by simpa [Addr.add] using World.cell?_spot (hq 0 (by omega)).1
 subst hspot
 obtain ⟨c0, c1⟩ := hq i (by omega)
 rw [Addr.add_lit] at c0 c1
 exact ⟨ab, ao, rfl, hlt (.cell ab (ao + i * 2)) (by simp only [MemPlace.row, List.mem_map, List.mem_range]; exact ⟨i * 2, by omega, rfl⟩), c0, by simpa [Nat.add_assoc] using c1⟩
set_option maxRecDepth 100000 in
theorem open_ring {H : Type} {enc : TypeId × Value → H} {W : World} {base : Nat} {v : Value} {d : DataW H} {pl : List MemPlace} (ok : Value.okWide Tryz.prog W .any base 24 v) (h : DataW.Trod enc Tryz.prog W 0 (fun _ => true) true 24 v d pl) (hlt : ∀ x ∈ pl, x.block < W.heap.size) :
   ∃ ao n cap p, v = .agg #[.slice ao n cap] ∧ n ≤ 9223372036854775807 ∧ SpIn W ao n p := by
 obtain ⟨cs, rfl, hsz⟩ := okWide_struct Tryz.underlying24 ok
 rw [Tryz.cellsRing] at hsz
 obtain ⟨c0, rfl⟩ : ∃ c0, cs = #[c0] := by
   obtain ⟨l⟩ := cs
   match l, hsz with
   | [c0], _ => exact ⟨c0, rfl⟩
 obtain ⟨fuel, hf⟩ := h
 simp only [Value.cells] at hf
 obtain ⟨y0, k, hy, _, g0⟩ := trod_struct1 Tryz.underlying24 hf
 simp [Tryz.cellsSpotS] at g0
 have hpl : pl = y0.2 := by have := congrArg Prod.snd hy; simpa using this
 rcases Go.Deep.open_slice Tryz.underlying22 g0 with ⟨hcs, -⟩ | ⟨a', len', cap', m', n', D', Pl', hcs, _, hl', hm', hz', hx', hel'⟩
 · simp at hcs
   subst hcs
   exact ⟨none, 0, 0, fun _ => (0, 0), rfl, Nat.zero_le _, fun i hi => absurd hi (Nat.not_lt_zero _)⟩
 · simp at hcs
   subst hcs
   simp only [if_true] at hz'
   have hb : ∀ x ∈ MemPlace.row a' (m' * Tryz.prog.cellsOf 90), x.block < W.heap.size := fun x hxx => hlt x (by
     rw [hpl, hx']
     exact List.mem_append_left _ hxx)
   obtain ⟨p, hp⟩ := spots_of (len := len') (by omega) hel' hb
   exact ⟨some a', len', cap', p, rfl, by have := hm'; simp [maxLen] at this; omega, hp⟩
open Go.ChangeShapes Go.WideShapes Go.ChangeAt Go.RowKit Go.Joins
theorem jn_laid : laidOutB Tryz.pinned.checked.prog = true := by kernel_rfl
theorem jn_maps : mapsRowed Tryz.pinned.checked.prog = true := by kernel_rfl
theorem jn_enter : Tryz.pinned.checked.prog.mayEnter = true := by kernel_rfl
theorem jn_heard : Tryz.pinned.checked.prog.stopsHeard = true := by kernel_rfl
end Go.Proofs.YtibbjjlapglndaaGreat
